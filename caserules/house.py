"""A house with its rules, and the calls on it."""

from caserules.kinds import is_form, is_step
from caserules.near import nearest_row
from caserules.search import Spots, broken_in, earliest_row, rows_that_keep_all, verdicts_of
from caserules.together import clashes_of, spare_of

BEGINS = 0
RULE = 1
DROP = 2
JUDGE = 3
SHORTEST = 4
COUNT = 5
CLASHES = 6
SPARE = 7
BREAKS = 8
NEAREST = 9

MOST_RULES = 4
LONGEST_ROW = 8
MOST_COUNTED = 10

WRONG_FORM = -1
NO_SUCH_RULE = -2
NO_SUCH_ROW = -6
TOO_MANY_RULES = -7


class UnknownCall(ValueError):
    """A call by a number that no call has."""


class House:
    """Each call answers a list of numbers; a refusal is one number below 0, alone."""

    def __init__(self):
        self.rules = []

    def begins(self):
        self.rules = []
        return [0]

    def add_rule(self, row):
        # The document names the wrong form first, so a wrong form is told even of a full house.
        if not is_form(row):
            return [WRONG_FORM]
        if len(self.rules) == MOST_RULES:
            return [TOO_MANY_RULES]
        self.rules.append(tuple(row))
        return [len(self.rules) - 1]

    def drop(self, which):
        if which >= len(self.rules):
            return [NO_SUCH_RULE]
        self.rules.pop(which)
        return [len(self.rules)]

    def judge(self, steps):
        if not is_row(steps):
            return [WRONG_FORM]
        verdicts = verdicts_of(self.rules, steps)
        return [1 if broken_in(verdicts) == [] else 0] + verdicts

    def shortest(self):
        return told_row(earliest_row(Spots(self.rules), []))

    def count(self, many):
        if many > MOST_COUNTED:
            return [WRONG_FORM]
        return [rows_that_keep_all(Spots(self.rules), many)]

    def clashes(self):
        found = clashes_of(Spots(self.rules), len(self.rules))
        told = [len(found)]
        for clash in found:
            told.append(len(clash))
            told.extend(clash)
        return told

    def spare(self):
        found = spare_of(Spots(self.rules), len(self.rules))
        return [len(found)] + found

    def breaks(self, which):
        if which >= len(self.rules):
            return [NO_SUCH_RULE]
        return told_row(earliest_row(Spots(self.rules), [which]))

    def nearest(self, steps):
        # The document names the wrong row first, so it is told even where no row keeps all rules.
        if not is_row(steps):
            return [WRONG_FORM]
        found = nearest_row(Spots(self.rules), steps)
        if found is None:
            return [NO_SUCH_ROW]
        return [found[0]] + list(found[1])


def told_row(row):
    """A row with its length ahead of it, or the refusal where there is none."""
    if row is None:
        return [NO_SUCH_ROW]
    return [len(row)] + list(row)


def is_row(steps):
    return len(steps) <= LONGEST_ROW and all([is_step(step) for step in steps])


def row_at(calls, place):
    """The row whose count stands at this place."""
    first = place + 1
    return calls[first:first + calls[place]]


def answer_at(house, calls, place):
    """What the house answers to the call that begins at this place."""
    call = calls[place]
    if call == BEGINS:
        return house.begins()
    if call == RULE:
        return house.add_rule(row_at(calls, place + 1))
    if call == DROP:
        return house.drop(calls[place + 1])
    if call == JUDGE:
        return house.judge(row_at(calls, place + 1))
    if call == SHORTEST:
        return house.shortest()
    if call == COUNT:
        return house.count(calls[place + 1])
    if call == CLASHES:
        return house.clashes()
    if call == SPARE:
        return house.spare()
    if call == BREAKS:
        return house.breaks(calls[place + 1])
    if call == NEAREST:
        return house.nearest(row_at(calls, place + 1))
    raise UnknownCall(f"there is no call {call}")


def place_behind(calls, place):
    """Where the call that begins at this place has ended."""
    call = calls[place]
    if call in (RULE, JUDGE, NEAREST):
        return place + 2 + calls[place + 1]
    if call in (DROP, COUNT, BREAKS):
        return place + 2
    return place + 1


def answers(calls):
    """For each call, in order, how many numbers are answered, then these."""
    house = House()
    told = []
    place = 0
    while place < len(calls):
        answer = answer_at(house, calls, place)
        told.append(len(answer))
        told.extend(answer)
        place = place_behind(calls, place)
    return told
