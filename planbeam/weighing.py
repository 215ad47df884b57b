"""A weighing by a plan, and the calls that are made on it."""

from planbeam.call_reader import CallReader
from planbeam.number_text import exact_text
from planbeam.plan import HIGHEST_LOAD, read_plan
from planbeam.telling import SQUARE, read_basis, told

BEGIN = 0
TAKE = 1
STATE = 2
READING = 3
BACK = 4
COMES = 5
SAYS = 6

DONE = 0
WRONG_CALL = -1
NOT_RIGHT = -2
OUT_OF_PLACE = -5
TOO_LARGE = -6

NO_LOAD = -1
# 2 to the 4096 is the first number that needs one bit more.
MOST_BITS = 4096


class UnknownCall(ValueError):
    """A call's number that no call has."""


class Weighing:
    """A plan, and the readings of its first steps."""

    def __init__(self, plan):
        self.plan = plan
        self.readings = []

    def steps(self):
        """How many steps there are."""
        return len(self.plan.loads)

    def finished(self):
        """Whether every step has its reading."""
        return len(self.readings) == self.steps()

    def next_load(self):
        """The load of the step that is next."""
        if self.finished():
            return NO_LOAD
        return self.plan.loads[len(self.readings)]


def text_answer(ratio):
    """The answer that tells a ratio: how many bytes its exact text has, and they."""
    if ratio.top.bit_length() > MOST_BITS or ratio.bottom.bit_length() > MOST_BITS:
        return [TOO_LARGE]
    text = exact_text(ratio)
    return [len(text)] + text


class Line:
    """The weighing that the calls of one list are made on, None as long as none is begun.

    Each call gives back the list of what it answers.
    """

    def __init__(self):
        self.weighing = None

    def begin(self, degree, loads, counts_text):
        """A new weighing in place of the one before."""
        plan = read_plan(degree, loads, counts_text)
        if plan is None:
            return [NOT_RIGHT]
        self.weighing = Weighing(plan)
        return [DONE]

    def take(self, reading):
        """The reading of the step that is next."""
        weighing = self.weighing
        if weighing is None:
            return [WRONG_CALL]
        if weighing.finished():
            return [OUT_OF_PLACE]
        weighing.readings.append(reading)
        return [DONE]

    def state(self):
        """How far the weighing is."""
        weighing = self.weighing
        if weighing is None:
            return [WRONG_CALL]
        return [DONE, weighing.steps(), len(weighing.readings), weighing.next_load()]

    def told_reading(self, k):
        """The k-th reading, from 0."""
        weighing = self.weighing
        if weighing is None:
            return [WRONG_CALL]
        if k >= len(weighing.readings):
            return [OUT_OF_PLACE]
        return [DONE, weighing.readings[k]]

    def back(self, k):
        """The weighing as it was behind its first k readings."""
        weighing = self.weighing
        if weighing is None:
            return [WRONG_CALL]
        if k > len(weighing.readings):
            return [OUT_OF_PLACE]
        weighing.readings = weighing.readings[:k]
        return [DONE]

    def comes(self, load):
        """How much of a load comes out."""
        weighing = self.weighing
        if weighing is None or load > HIGHEST_LOAD:
            return [WRONG_CALL]
        return text_answer(weighing.plan.comes_out(load))

    def says(self, which, basis):
        """The number, the reach or the square of what is told; the basis is None if it is not right."""
        weighing = self.weighing
        if weighing is None or which > SQUARE or basis is None:
            return [WRONG_CALL]
        if not weighing.finished():
            return [OUT_OF_PLACE]
        return text_answer(told(which, weighing.plan, weighing.readings, basis))


def answer_begin(line, reader):
    """What a begin answers, whose own number is read already."""
    degree = reader.next_number()
    loads = reader.next_row()
    counts_text = reader.next_row()
    return line.begin(degree, loads, counts_text)


def answer_says(line, reader):
    """What a says answers, whose own number is read already."""
    which = reader.next_number()
    worth_text = reader.next_row()
    bound_text = reader.next_row()
    nearness_text = reader.next_row()
    square_text = reader.next_row()
    return line.says(which, read_basis(worth_text, bound_text, nearness_text, square_text))


def answer_call(line, reader):
    """What the call that is next answers."""
    call = reader.next_number()
    if call == BEGIN:
        return answer_begin(line, reader)
    if call == TAKE:
        return line.take(reader.next_number())
    if call == STATE:
        return line.state()
    if call == READING:
        return line.told_reading(reader.next_number())
    if call == BACK:
        return line.back(reader.next_number())
    if call == COMES:
        return line.comes(reader.next_number())
    if call == SAYS:
        return answer_says(line, reader)
    raise UnknownCall()


def answers(calls):
    """What the calls of a list answer: for each how many numbers, and these."""
    reader = CallReader(calls)
    line = Line()
    given = []
    while not reader.at_end():
        answer = answer_call(line, reader)
        given.append(len(answer))
        given.extend(answer)
    return given
