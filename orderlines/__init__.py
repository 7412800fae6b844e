"""Orders as text: a map, the units on it, and their orders."""
