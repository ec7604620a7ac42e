"""Numbers that look like chance but are the same on each run, to make many samples with."""


class Chance:
    """A row of numbers that goes on for ever."""

    def __init__(self, seed):
        self.state = seed

    def below(self, limit):
        """Return the next number from 0 to one less than the limit."""
        self.state = (self.state * 6364136223846793005 + 1442695040888963407) % 2 ** 64
        return (self.state >> 33) % limit

    def one_of(self, values):
        """Return one of some values."""
        return values[self.below(len(values))]

    def some_of(self, values, one_in=2):
        """Return the row of some of the values, in their order."""
        return tuple(value for value in values if self.below(one_in) == 0)

    def numbers(self, many, limit):
        """Return a row of so many numbers below a limit."""
        return tuple(self.below(limit) for _ in range(many))
