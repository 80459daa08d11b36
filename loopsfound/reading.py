"""Reading a list of numbers from its beginning to its end."""

from loopsfound.refusals import NotWhole


class Reader:
    """Goes through a list of numbers, which it never changes."""

    def __init__(self, numbers):
        self.numbers = numbers
        self.place = 0

    def take(self, lowest, highest):
        """The next number, which has to be there and to lie within these two."""
        if self.place >= len(self.numbers):
            raise NotWhole()
        number = self.numbers[self.place]
        if number < lowest or number > highest:
            raise NotWhole()
        self.place = self.place + 1
        return number

    def finish(self):
        """No number may be left over."""
        if self.place < len(self.numbers):
            raise NotWhole()
