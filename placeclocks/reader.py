"""Reads calls, one behind another, from the list of whole numbers in which they are written."""


class Reader:
    def __init__(self, numbers):
        self.numbers = numbers
        self.at = 0

    def is_done(self):
        return self.at >= len(self.numbers)

    def take_number(self):
        number = self.numbers[self.at]
        self.at = self.at + 1
        return number

    def take_row(self):
        size = self.take_number()
        row = self.numbers[self.at:self.at + size]
        self.at = self.at + size
        return row


# What a call is handed: its whole numbers, then its rows.
def read_given(reader, number_count, row_count):
    given = []
    while len(given) < number_count:
        given.append(reader.take_number())
    while len(given) < number_count + row_count:
        given.append(reader.take_row())
    return given
