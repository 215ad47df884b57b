"""Exact ratios of whole numbers."""


def common_factor(first, second):
    """The greatest number that divides both (neither below 0, not both 0)."""
    larger = first
    smaller = second
    while smaller != 0:
        rest = larger % smaller
        larger = smaller
        smaller = rest
    return larger


class Ratio:
    """A numerator (top) over a denominator (bottom, above 0), in least terms."""

    def __init__(self, top, bottom):
        shared = common_factor(abs(top), bottom)
        self.top = top // shared
        self.bottom = bottom // shared
