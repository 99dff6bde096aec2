"""What the tests share: the calls' numbers, and the rules said again in plain words, straight from the document."""

import itertools

from caserules.house import answers

LARGEST = 4294967295


def begins():
    return [0]


def rule(*numbers):
    return [1, len(numbers), *numbers]


def drop(which):
    return [2, which]


def judge(*steps):
    return [3, len(steps), *steps]


def shortest():
    return [4]


def ask(*calls):
    """The answers to these calls, one list each."""
    told = answers([number for call in calls for number in call])
    parts = []
    place = 0
    while place < len(told):
        behind = place + 1 + told[place]
        parts.append(told[place + 1:behind])
        place = behind
    assert place == len(told) and len(parts) == len(calls), told
    return parts


def last(*calls):
    """The answer to the last of these calls."""
    return ask(*calls)[-1]


def is_kept(numbers, row):
    kind, a = numbers[0], numbers[1]
    b = n = numbers[-1]
    at_a = [k for k, step in enumerate(row) if step == a]
    at_b = [k for k, step in enumerate(row) if step == b]
    if kind == 0:
        return len(at_a) >= n
    if kind == 1:
        return len(at_a) <= n
    if kind == 2:
        return list(row[:1]) == [a]
    if kind == 3:
        return list(row[-1:]) == [a]
    if kind == 4:
        return all(any(k < j for j in at_b) for k in at_a)
    if kind == 5:
        return all(any(j < k for j in at_a) for k in at_b)
    if kind == 6:
        return all(k + 1 in at_b for k in at_a)
    if kind == 7:
        return not (at_a and at_b)
    return all(any(k < j < then for j in at_b) for k, then in zip(at_a, at_a[1:]))


def is_idle(numbers, row):
    kind, a = numbers[0], numbers[1]
    if not is_kept(numbers, row):
        return False
    if kind in (4, 6):
        return a not in row
    if kind == 5:
        return numbers[2] not in row
    return kind == 8 and list(row).count(a) <= 1


def plain_verdict(numbers, row):
    if is_idle(numbers, row):
        return 2
    return 1 if is_kept(numbers, row) else 0


def every_rule():
    """All rules that there are."""
    counting = [(kind, a, n) for kind in (0, 1) for a in range(5) for n in range(4)]
    placing = [(kind, a) for kind in (2, 3) for a in range(5)]
    pairing = [(kind, a, b) for kind in range(4, 9) for a in range(5) for b in range(5) if a != b]
    return counting + placing + pairing


def rows_up_to(longest, steps=5):
    """All rows of at most so many steps, earlier ones first."""
    return [row for many in range(longest + 1) for row in itertools.product(range(steps), repeat=many)]
