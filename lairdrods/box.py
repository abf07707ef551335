"""Answers a list of calls that stand in it one behind another."""

from lairdrods.rods import Rods

BEGIN = 0
LAY = 1
CUT = 2
ROW = 3
BY = 4
INTO = 5
ROOT = 6
ARROWS = 7
EXPLAIN = 8
COUNT = 9
SHOW = 10


class UnknownCall(ValueError):
    """There is no call with that number."""


class CallReader:
    """Takes the numbers of the calls one behind another, and leaves them as they are."""

    def __init__(self, calls):
        self.calls = calls
        self.place = 0

    def at_end(self):
        """Whether all calls were taken."""
        return self.place >= len(self.calls)

    def take_number(self):
        """The number that comes now."""
        self.place += 1
        return self.calls[self.place - 1]

    def take_list(self):
        """The list that comes now: ahead of it stands how many numbers it has."""
        length = self.take_number()
        start = self.place
        self.place = start + length
        return self.calls[start:self.place]


def answer_cut(rods, reader):
    """What the call cut, whose numbers come now, answers."""
    rod = reader.take_number()
    face = reader.take_number()
    k = reader.take_number()
    return rods.cut(rod, face, k, reader.take_number())


def answer_explain(rods, reader):
    """What the call explain, whose numbers come now, answers."""
    k = reader.take_number()
    return rods.explain(k, reader.take_list())


def answer_call(rods, reader):
    """What the call that comes now answers."""
    call = reader.take_number()
    if call == BEGIN:
        return rods.begin(reader.take_list())
    if call == LAY:
        return rods.lay(reader.take_list())
    if call == CUT:
        return answer_cut(rods, reader)
    if call == ROW:
        return rods.row(reader.take_number())
    if call == BY:
        return rods.by(reader.take_list())
    if call == INTO:
        return rods.into(reader.take_list())
    if call == ROOT:
        return rods.root(reader.take_list())
    if call == ARROWS:
        return rods.arrows(reader.take_number())
    if call == EXPLAIN:
        return answer_explain(rods, reader)
    if call == COUNT:
        return rods.count_rows(reader.take_number())
    if call == SHOW:
        return rods.show()
    raise UnknownCall(f"no call has the number {call}")


def answers(calls):
    """For each call, in order: how many numbers it answers, then these."""
    rods = Rods()
    reader = CallReader(calls)
    told = []
    while not reader.at_end():
        answer = answer_call(rods, reader)
        told.append(len(answer))
        told.extend(answer)
    return told
