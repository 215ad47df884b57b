"""Exact ratios of whole numbers."""


def common_factor(first, second):
    """The greatest number that divides both (neither below 0, not both 0)."""
    larger = first
    smaller = second
    while smaller != 0:
        rest = larger % smaller
        larger = smaller
        smaller = rest
    return larger


class Ratio:
    """A numerator (top) over a denominator (bottom, above 0), in least terms."""

    def __init__(self, top, bottom):
        shared = common_factor(abs(top), bottom)
        self.top = top // shared
        self.bottom = bottom // shared

    def plus(self, other):
        """The sum of both."""
        return Ratio(self.top * other.bottom + other.top * self.bottom, self.bottom * other.bottom)

    def times(self, other):
        """The product of both."""
        return Ratio(self.top * other.top, self.bottom * other.bottom)

    def size(self):
        """The same without its sign."""
        return Ratio(abs(self.top), self.bottom)
