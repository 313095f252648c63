"""Reading a list of whole numbers from its beginning, without changing it."""


class TooFew(ValueError):
    """There is no number left to take."""


class Reader:
    def __init__(self, numbers):
        self.numbers = numbers
        self.place = 0

    def at_end(self):
        return self.place >= len(self.numbers)

    def take(self):
        if self.at_end():
            raise TooFew("no number is left")
        number = self.numbers[self.place]
        self.place = self.place + 1
        return number

    def take_many(self, many):
        return [self.take() for turn in range(many)]

    def take_row(self):
        return self.take_many(self.take())
