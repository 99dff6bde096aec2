"""What the tests share: the calls' numbers, and the rules and words said again, straight from the document."""

import functools
import itertools

from caserules.house import answers

LARGEST = 4294967295


def begins():
    return [0]


def rule(*numbers):
    return [1, len(numbers), *numbers]


def drop(which):
    return [2, which]


def judge(*steps):
    return [3, len(steps), *steps]


def shortest():
    return [4]


def count(many):
    return [5, many]


def clashes():
    return [6]


def spare():
    return [7]


def breaks(which):
    return [8, which]


def nearest(*steps):
    return [9, len(steps), *steps]


def ask(*calls):
    """The answers to these calls, one list each."""
    told = answers([number for call in calls for number in call])
    parts = []
    place = 0
    while place < len(told):
        behind = place + 1 + told[place]
        parts.append(told[place + 1:behind])
        place = behind
    assert place == len(told) and len(parts) == len(calls), told
    return parts


def last(*calls):
    """The answer to the last of these calls."""
    return ask(*calls)[-1]


def with_rules(told, *calls):
    """The answers to these calls, of a house with the rules told."""
    return ask(*[rule(*numbers) for numbers in told], *calls)[len(told):]


def is_kept(numbers, row):
    kind, a = numbers[0], numbers[1]
    b = n = numbers[-1]
    at_a = [k for k, step in enumerate(row) if step == a]
    at_b = [k for k, step in enumerate(row) if step == b]
    if kind == 0:
        return len(at_a) >= n
    if kind == 1:
        return len(at_a) <= n
    if kind == 2:
        return list(row[:1]) == [a]
    if kind == 3:
        return list(row[-1:]) == [a]
    if kind == 4:
        return all(any(k < j for j in at_b) for k in at_a)
    if kind == 5:
        return all(any(j < k for j in at_a) for k in at_b)
    if kind == 6:
        return all(k + 1 in at_b for k in at_a)
    if kind == 7:
        return not (at_a and at_b)
    return all(any(k < j < then for j in at_b) for k, then in zip(at_a, at_a[1:]))


def is_idle(numbers, row):
    kind, a = numbers[0], numbers[1]
    if not is_kept(numbers, row):
        return False
    if kind in (4, 6):
        return a not in row
    if kind == 5:
        return numbers[2] not in row
    return kind == 8 and list(row).count(a) <= 1


def plain_verdict(numbers, row):
    if is_idle(numbers, row):
        return 2
    return 1 if is_kept(numbers, row) else 0


def every_rule():
    """All rules that there are."""
    counting = [(kind, a, n) for kind in (0, 1) for a in range(5) for n in range(4)]
    placing = [(kind, a) for kind in (2, 3) for a in range(5)]
    pairing = [(kind, a, b) for kind in range(4, 9) for a in range(5) for b in range(5) if a != b]
    return counting + placing + pairing


def rows_up_to(longest, steps=5):
    """All rows of at most so many steps, earlier ones first."""
    return [row for many in range(longest + 1) for row in itertools.product(range(steps), repeat=many)]


def speaks_of(numbers, steps):
    """Whether a rule speaks of the first steps alone, so many of them."""
    return numbers[1] < steps and (numbers[0] < 4 or numbers[2] < steps)


def far_apart(row, other):
    """How many steps are left out and put in, at least, to make one row of the other."""
    shared = [[0] * (len(other) + 1)]
    for step in row:
        line = [0]
        for k, another in enumerate(other):
            line.append(shared[-1][k] + 1 if step == another else max(line[-1], shared[-1][k + 1]))
        shared.append(line)
    return len(row) + len(other) - 2 * shared[-1][-1]


class PlainRows:
    """A plain search through all rows of at most so many steps: what they answer, however short they are."""

    def __init__(self, rules, longest, steps=5):
        self.longest = longest
        self.rows = rows_up_to(longest, steps)
        self.every = (1 << len(self.rows)) - 1
        # Bit k of a rule's number is set if it is kept by row k: the lowest bit that several share is the earliest row.
        self.keeping = {}
        for numbers in rules:
            bits = "".join("1" if is_kept(numbers, row) else "0" for row in reversed(self.rows))
            self.keeping[numbers] = int(bits, 2)

    def kept(self, told):
        """The rows that keep all rules told, as bits."""
        bits = self.every
        for numbers in told:
            bits &= self.keeping[numbers]
        return bits

    def breaking(self, told, which):
        """The rows that keep all others and break this one, as bits."""
        return self.kept(told[:which] + told[which + 1:]) & ~self.keeping[told[which]]

    def earliest(self, bits):
        return self.rows[(bits & -bits).bit_length() - 1] if bits else None

    def shortest(self, told):
        return self.earliest(self.kept(told))

    def breaks(self, told, which):
        return self.earliest(self.breaking(told, which))

    def count(self, told, many):
        bits = self.kept(told)
        return sum(1 for k, row in enumerate(self.rows) if len(row) == many and bits >> k & 1)

    def spare(self, told):
        return [which for which in range(len(told)) if not self.breaking(told, which)]

    def clashes(self, told):
        found = []
        for many in range(len(told) + 1):
            for chosen in itertools.combinations(range(len(told)), many):
                parts = [[told[k] for k in chosen if k != out] for out in chosen]
                if not self.kept([told[k] for k in chosen]) and all(self.kept(part) for part in parts):
                    found.append(list(chosen))
        return found

    def by_nearness(self, row):
        """How far each row is from this one, and its place: the least far first, of these the earliest."""
        return sorted((far_apart(row, other), k) for k, other in enumerate(self.rows))

    def nearest(self, told, by_nearness):
        """How far the nearest of the short rows that keeps all is, and it, or None."""
        bits = self.kept(told)
        for far, k in by_nearness:
            if bits >> k & 1:
                return far, self.rows[k]
        return None


@functools.cache
def short_rows():
    """Every rule, on every row of at most 6 steps."""
    return PlainRows(every_rule(), 6)


@functools.cache
def rows_of_three():
    """Those rules that speak of 0 and 1 alone, on rows of 0, 1 and 2: of such rules all other steps are like 2."""
    return PlainRows([numbers for numbers in every_rule() if speaks_of(numbers, 2)], 9, 3)
