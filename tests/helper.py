"""Builds lists of calls, and takes apart what they answer."""

from planbeam.weighing import answers

STATE = [2]


def begin(loads, counts, degree):
    text = list(counts.encode("utf-8")) if isinstance(counts, str) else list(counts)
    return [0, degree, len(loads)] + list(loads) + [len(text)] + text


def take(r):
    return [1, r]


def reading(k):
    return [3, k]


def back(k):
    return [4, k]


def comes(load):
    return [5, load]


def says(which, worth, bound, nearness, square):
    """A says; each of the four numbers is a text, or the list of its bytes."""
    call = [6, which]
    for number in (worth, bound, nearness, square):
        text = list(number.encode("utf-8")) if isinstance(number, str) else list(number)
        call += [len(text)] + text
    return call


def says_all(worth, bound, nearness, square):
    """The calls for number, reach and square."""
    return [says(which, worth, bound, nearness, square) for which in range(3)]


def weighed(loads, counts, degree, taken):
    """The calls up to a weighing with these readings."""
    return [begin(loads, counts, degree)] + [take(r) for r in taken]


def line(*calls):
    """The calls as one list."""
    return [number for call in calls for number in call]


def split_answers(given):
    """The answer of each call as a list of its own."""
    parts = []
    place = 0
    while place < len(given):
        length = given[place]
        part = given[place + 1:place + 1 + length]
        if len(part) != length:
            raise AssertionError("an answer is shorter than what is told ahead of it")
        parts.append(part)
        place += 1 + length
    return parts


def run(*calls):
    """What each of the calls answers."""
    return split_answers(answers(line(*calls)))


def told(text):
    """The answer that tells a text."""
    return [len(text)] + list(text.encode("ascii"))


def text_of(answer):
    """The text that an answer tells, or the number of a refusal."""
    if answer[0] < 0:
        if len(answer) != 1:
            raise AssertionError("a refusal is not alone")
        return answer[0]
    if len(answer) != answer[0] + 1:
        raise AssertionError("not as many bytes as are told ahead of them")
    return bytes(answer[1:]).decode("ascii")


def asked(ahead, *calls):
    """What the calls tell that stand behind others, as texts or refusals."""
    return [text_of(answer) for answer in run(*ahead, *calls)[len(ahead):]]


def run_begin(loads, counts, degree):
    """What a single begin answers."""
    return run(begin(loads, counts, degree))[0]


def binomial_counts(order):
    """Counts of order + 1 steps that take out drift of each degree below order, and of none from it on."""
    counts = [1]
    for _ in range(order):
        counts = [a - b for a, b in zip(counts + [0], [0] + counts)]
    return counts


def as_text(counts):
    return " ".join(str(count) for count in counts)
