"""The numbers of a list of calls, taken one behind another; the list itself stays as it is."""


class Reader:
    def __init__(self, numbers):
        self.numbers = numbers
        self.place = 0

    def at_end(self):
        return self.place == len(self.numbers)

    def take_number(self):
        number = self.numbers[self.place]
        self.place += 1
        return number

    def take_row(self):
        length = self.take_number()
        row = tuple(self.numbers[self.place:self.place + length])
        self.place += length
        return row
