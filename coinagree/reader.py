"""Reading a list of calls number by number."""


# A place is moved on, and nothing taken out: the list is the caller's and stays as it is.
class Reader:
    def __init__(self, numbers):
        self.numbers = numbers
        self.place = 0

    def has_more(self):
        return self.place < len(self.numbers)

    def take_number(self):
        number = self.numbers[self.place]
        self.place += 1
        return number

    def take_row(self):
        length = self.take_number()
        row = self.numbers[self.place:self.place + length]
        self.place += length
        return row
