"""Plans: the loads of the steps, and how much the reading of each step counts."""

from planbeam.number_text import read_number
from planbeam.ratio import Ratio, common_factor

MOST_STEPS = 64
HIGHEST_LOAD = 15
HIGHEST_DEGREE = 8
LONGEST_COUNTS = 4096
BLANK = 32
# 2 to the 64 and 2 to the 32
TOP_LIMIT = 18446744073709551616
BOTTOM_LIMIT = 4294967296


class Plan:
    """A right plan: for each step its load, and the numerator of its count over one denominator for all."""

    def __init__(self, loads, tops, bottom):
        self.loads = loads
        self.tops = tops
        self.bottom = bottom

    def comes_out(self, load):
        """How much of a load comes out."""
        return Ratio(sum([self.tops[step] for step in range(len(self.tops)) if self.loads[step] == load]), self.bottom)


def split_at_blanks(text):
    """What stands before, between and behind the blanks of a text."""
    pieces = []
    piece = []
    for byte in text:
        if byte == BLANK:
            pieces.append(piece)
            piece = []
        else:
            piece.append(byte)
    pieces.append(piece)
    return pieces


def may_count(ratio):
    """Whether a ratio is small enough for a count."""
    return abs(ratio.top) < TOP_LIMIT and ratio.bottom < BOTTOM_LIMIT


def read_counts(text):
    """The counts that a text tells, None if one of them is none or the text is too long."""
    if len(text) > LONGEST_COUNTS:
        return None
    counts = []
    for piece in split_at_blanks(text):
        count = read_number(piece)
        if count is None or not may_count(count):
            return None
        counts.append(count)
    return counts


def loads_fit(loads):
    """Whether there are as many steps as a plan may have, with loads that there are."""
    return 1 <= len(loads) <= MOST_STEPS and max(loads) <= HIGHEST_LOAD


def common_bottom(counts):
    """The least denominator that all counts can be written over."""
    common = 1
    for count in counts:
        common = common * count.bottom // common_factor(common, count.bottom)
    return common


def drift_goes_out(tops, degree):
    """Whether counts with these numerators over one denominator take out each drift of that degree."""
    # The numerators add up to 0 just where the counts do, and stay whole.
    terms = tops
    for power in range(degree + 1):
        if sum(terms) != 0:
            return False
        # From each power to the next by one more factor: so step 0 has its 0 to the 0 as 1.
        terms = [terms[step] * step for step in range(len(terms))]
    return True


def read_plan(degree, loads, counts_text):
    """The plan that these tell, None if they tell no right one."""
    # The degree first: it may be so high that its powers could not be gone through.
    if degree > HIGHEST_DEGREE or not loads_fit(loads):
        return None
    counts = read_counts(counts_text)
    if counts is None or len(counts) != len(loads):
        return None
    bottom = common_bottom(counts)
    tops = [count.top * (bottom // count.bottom) for count in counts]
    if not drift_goes_out(tops, degree):
        return None
    return Plan(loads, tops, bottom)
