"""A house with its rules, and the calls on it."""

from caserules.kinds import is_form, is_step
from caserules.search import all_kept, earliest_row, verdicts_of

BEGINS = 0
RULE = 1
DROP = 2
JUDGE = 3
SHORTEST = 4

MOST_RULES = 4
LONGEST_ROW = 8

WRONG_FORM = -1
NO_SUCH_RULE = -2
NO_SUCH_ROW = -6
TOO_MANY_RULES = -7


class UnknownCall(ValueError):
    """A call by a number that this house doesn't answer."""


class House:
    """Each call answers a list of numbers; a refusal is one number below 0, alone."""

    def __init__(self):
        self.rules = []

    def begins(self):
        self.rules = []
        return [0]

    def add_rule(self, row):
        # The document names the wrong form first, so a wrong form is told even of a full house.
        if not is_form(row):
            return [WRONG_FORM]
        if len(self.rules) == MOST_RULES:
            return [TOO_MANY_RULES]
        self.rules.append(tuple(row))
        return [len(self.rules) - 1]

    def drop(self, which):
        if which >= len(self.rules):
            return [NO_SUCH_RULE]
        self.rules.pop(which)
        return [len(self.rules)]

    def judge(self, steps):
        if not is_row(steps):
            return [WRONG_FORM]
        verdicts = verdicts_of(self.rules, steps)
        return [1 if all_kept(verdicts) else 0] + verdicts

    def shortest(self):
        row = earliest_row(self.rules)
        if row is None:
            return [NO_SUCH_ROW]
        return [len(row)] + list(row)


def is_row(steps):
    return len(steps) <= LONGEST_ROW and all([is_step(step) for step in steps])


def row_at(calls, place):
    """The row whose count stands at this place."""
    first = place + 1
    return calls[first:first + calls[place]]


def answer_at(house, calls, place):
    """What the house answers to the call that begins at this place."""
    call = calls[place]
    if call == BEGINS:
        return house.begins()
    if call == RULE:
        return house.add_rule(row_at(calls, place + 1))
    if call == DROP:
        return house.drop(calls[place + 1])
    if call == JUDGE:
        return house.judge(row_at(calls, place + 1))
    if call == SHORTEST:
        return house.shortest()
    raise UnknownCall(f"there is no call {call}")


def place_behind(calls, place):
    """Where the call that begins at this place has ended."""
    call = calls[place]
    if call == RULE or call == JUDGE:
        return place + 2 + calls[place + 1]
    if call == DROP:
        return place + 2
    return place + 1


def answers(calls):
    """For each call, in order, how many numbers are answered, then these."""
    house = House()
    told = []
    place = 0
    while place < len(calls):
        answer = answer_at(house, calls, place)
        told.append(len(answer))
        told.extend(answer)
        place = place_behind(calls, place)
    return told
