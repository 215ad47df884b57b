"""Builds lists of calls, and takes apart what they answer."""

from planbeam.weighing import answers

STATE = [2]


def begin(loads, counts, degree):
    text = list(counts.encode("utf-8")) if isinstance(counts, str) else list(counts)
    return [0, degree, len(loads)] + list(loads) + [len(text)] + text


def take(r):
    return [1, r]


def reading(k):
    return [3, k]


def line(*calls):
    """The calls as one list."""
    return [number for call in calls for number in call]


def split_answers(given):
    """The answer of each call as a list of its own."""
    parts = []
    place = 0
    while place < len(given):
        length = given[place]
        part = given[place + 1:place + 1 + length]
        if len(part) != length:
            raise AssertionError("an answer is shorter than what is told ahead of it")
        parts.append(part)
        place += 1 + length
    return parts


def run(*calls):
    """What each of the calls answers."""
    return split_answers(answers(line(*calls)))


def run_begin(loads, counts, degree):
    """What a single begin answers."""
    return run(begin(loads, counts, degree))[0]


def binomial_counts(order):
    """Counts of order + 1 steps that take out drift of each degree below order, and of none from it on."""
    counts = [1]
    for _ in range(order):
        counts = [a - b for a, b in zip(counts + [0], [0] + counts)]
    return counts


def as_text(counts):
    return " ".join(str(count) for count in counts)
