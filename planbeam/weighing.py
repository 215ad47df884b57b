"""A weighing by a plan, and the calls that are made on it."""

from planbeam.call_reader import CallReader
from planbeam.plan import read_plan

BEGIN = 0
TAKE = 1
STATE = 2
READING = 3

DONE = 0
NOT_BEGUN = -1
NOT_RIGHT = -2
OUT_OF_PLACE = -5

NO_LOAD = -1


class UnknownCall(ValueError):
    """A call's number that no call has."""


class Weighing:
    """A plan, and the readings of its first steps."""

    def __init__(self, plan):
        self.plan = plan
        self.readings = []

    def steps(self):
        """How many steps there are."""
        return len(self.plan.loads)

    def finished(self):
        """Whether every step has its reading."""
        return len(self.readings) == self.steps()

    def next_load(self):
        """The load of the step that is next."""
        if self.finished():
            return NO_LOAD
        return self.plan.loads[len(self.readings)]


class Line:
    """The weighing that the calls of one list are made on, None as long as none is begun.

    Each call gives back the list of what it answers.
    """

    def __init__(self):
        self.weighing = None

    def begin(self, degree, loads, counts_text):
        """A new weighing in place of the one before."""
        plan = read_plan(degree, loads, counts_text)
        if plan is None:
            return [NOT_RIGHT]
        self.weighing = Weighing(plan)
        return [DONE]

    def take(self, reading):
        """The reading of the step that is next."""
        weighing = self.weighing
        if weighing is None:
            return [NOT_BEGUN]
        if weighing.finished():
            return [OUT_OF_PLACE]
        weighing.readings.append(reading)
        return [DONE]

    def state(self):
        """How far the weighing is."""
        weighing = self.weighing
        if weighing is None:
            return [NOT_BEGUN]
        return [DONE, weighing.steps(), len(weighing.readings), weighing.next_load()]

    def told_reading(self, k):
        """The k-th reading, from 0."""
        weighing = self.weighing
        if weighing is None:
            return [NOT_BEGUN]
        if k >= len(weighing.readings):
            return [OUT_OF_PLACE]
        return [DONE, weighing.readings[k]]


def answer_begin(line, reader):
    """What a begin answers, whose own number is read already."""
    degree = reader.number()
    loads = reader.row()
    counts_text = reader.row()
    return line.begin(degree, loads, counts_text)


def answer_call(line, reader):
    """What the call that is next answers."""
    call = reader.number()
    if call == BEGIN:
        return answer_begin(line, reader)
    if call == TAKE:
        return line.take(reader.number())
    if call == STATE:
        return line.state()
    if call == READING:
        return line.told_reading(reader.number())
    raise UnknownCall()


def answers(calls):
    """What the calls of a list answer: for each how many numbers, and these."""
    reader = CallReader(calls)
    line = Line()
    given = []
    while not reader.at_end():
        answer = answer_call(line, reader)
        given.append(len(answer))
        given.extend(answer)
    return given
