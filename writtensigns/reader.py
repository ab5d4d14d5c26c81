"""Reading the one list in which calls lie one behind another."""


# It keeps a position of its own, because the list that is handed in must stay as it is.
class Reader:
    def __init__(self, numbers):
        self.numbers = numbers
        self.position = 0

    def has_more(self):
        return self.position < len(self.numbers)

    def take(self):
        number = self.numbers[self.position]
        self.position = self.position + 1
        return number

    def take_row(self):
        size = self.take()
        row = self.numbers[self.position:self.position + size]
        self.position = self.position + size
        return row
