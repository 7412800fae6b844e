"""The numbers that tell what is wrong with a line."""

MALFORMED = 1
NO_PROVINCE = 2
SEVERAL_PROVINCES = 3
NO_SHORE = 4
NO_UNIT = 5
OTHER_UNIT = 6
TOLD_TWICE = 7
ARMY_TO_SHORE = 8
SEVERAL_SHORES = 9
