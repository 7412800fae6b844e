"""Takes numbers and rows, one behind another, from a list that stays as it is."""


class Reader:
    def __init__(self, numbers):
        self.numbers = numbers
        self.place = 0

    def has_more(self):
        return self.place < len(self.numbers)

    def take_number(self):
        number = self.numbers[self.place]
        self.place = self.place + 1
        return number

    def take_numbers(self, how_many):
        taken = self.numbers[self.place:self.place + how_many]
        self.place = self.place + how_many
        return taken

    def take_row(self):
        return self.take_numbers(self.take_number())
