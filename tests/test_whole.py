"""What holds over all calls together: nothing is changed by a question or a refusal, and full lists are answered."""

import math
import time
import unittest

from caserules.house import answers
from tests.plain import (
    LARGEST, ask, begins, breaks, clashes, count, drop, judge, nearest, rule, shortest, spare, with_rules,
)

QUESTIONS = (
    judge(0, 1), shortest(), count(3), clashes(), spare(), breaks(0), breaks(1), nearest(1, 0), nearest(4, 4, 4),
)
REFUSALS = {
    "rule of no form": (rule(4, 1, 1), -1),
    "no rule at all": (rule(), -1),
    "no rule to drop": (drop(4), -2),
    "too long to judge": (judge(*([0] * 9)), -1),
    "no step to judge": (judge(0, 5), -1),
    "count of 11": (count(11), -1),
    "count of far more": (count(LARGEST), -1),
    "no rule to break": (breaks(4), -2),
    "no rule far away to break": (breaks(LARGEST), -2),
    "too long to be near": (nearest(*([0] * 9)), -1),
    "no step to be near": (nearest(5), -1),
}
HOUSES = (
    [],
    [(2, 0)],
    [(2, 0), (2, 1)],
    [(4, 0, 1), (4, 1, 2), (4, 0, 2)],
    [(0, 0, 1), (0, 1, 1), (7, 0, 1), (1, 1, 0)],
)


def looks(told, *between):
    """What a house with these rules answers to some questions behind what is asked in between."""
    return with_rules(told, *between, *QUESTIONS)[len(between):]


class NothingIsChanged(unittest.TestCase):
    def test_by_a_question(self):
        for told in HOUSES:
            before = looks(told)
            for question in QUESTIONS:
                if question[0] not in (6, 7):
                    self.assertEqual(looks(told, question, question), before, (told, question))
            for question in (clashes(), spare()):
                self.assertEqual(looks(told, question), before, (told, question))

    def test_by_a_refusal(self):
        for told in HOUSES:
            before = looks(told)
            for words, (call, refusal) in REFUSALS.items():
                self.assertEqual(with_rules(told, call), [[refusal]], (told, words))
                self.assertEqual(looks(told, call), before, (told, words))

    def test_by_a_refusal_where_there_is_no_such_row(self):
        told = [(2, 0), (2, 1), (3, 4)]
        before = looks(told)
        for call in (shortest(), nearest(0), breaks(2)):
            self.assertEqual(with_rules(told, call), [[-6]])
            self.assertEqual(looks(told, call), before, call)

    def test_rules_go_on_to_be_numbered(self):
        calls = [clashes(), spare(), count(1), breaks(0), nearest(1), breaks(9), nearest(9), count(11)]
        answered = ask(rule(2, 0), *calls, rule(2, 1), judge(0), drop(0), judge(0), begins(), rule(2, 2))
        self.assertEqual(answered[len(calls) + 1:], [[1], [0, 1, 0], [1], [0, 0], [0], [0]])


class FullLists(unittest.TestCase):
    # Of all sets of four rules those that need most to be kept in mind, and some that no row keeps.
    FOURS = (
        [(8, 0, 1), (8, 2, 1), (8, 3, 1), (8, 4, 1)],
        [(8, 1, 4), (8, 2, 0), (8, 3, 0), (8, 4, 0)],
        [(0, 0, 3), (0, 1, 3), (0, 2, 3), (0, 3, 3)],
        [(1, 0, 3), (1, 1, 3), (1, 2, 3), (1, 3, 3)],
        [(6, 0, 1), (6, 1, 2), (6, 2, 3), (0, 0, 3)],
        [(8, 0, 1), (8, 2, 1), (3, 4), (3, 3)],
    )
    LIMIT = 5

    def answered(self, told, wide, narrow):
        """The answers to a list of 60 calls: 4 rules, 43 rows to judge, 3 wide questions, 10 narrow ones."""
        calls = [rule(*numbers) for numbers in told] + [judge(0, 1, 2, 3, 4, 3, 2, 1)] * 43 + wide + narrow
        self.assertEqual((len(calls), len(wide), len(narrow)), (60, 3, 10))
        began = time.monotonic()
        found = ask(*calls)
        self.assertLess(time.monotonic() - began, self.LIMIT, told)
        return found

    def test_each_question_as_often_as_it_may_be_asked(self):
        rows = [nearest(0, 0, 1, 1, 2, 2, 3, 3), nearest(*([4] * 8)), nearest(*([0] * 8))]
        for told in self.FOURS:
            for wide in ([clashes()] * 3, [spare()] * 3, [clashes(), spare(), clashes()]):
                for narrow in [shortest()], [count(10)], [breaks(0), breaks(3)], rows, [shortest(), count(9)] + rows:
                    found = self.answered(told, wide, (narrow * 10)[:10])
                    self.assertEqual(found[:4], [[0], [1], [2], [3]])

    def test_what_is_answered(self):
        wide = [clashes(), spare(), clashes()]
        narrow = [shortest(), count(0), count(10), breaks(0), breaks(1), breaks(2), breaks(3)]
        narrow += [nearest(0, 0, 1, 1, 2, 2, 3, 3), nearest(*([4] * 8)), nearest(1, 1, 1, 1, 1, 1, 1, 1)]
        found = self.answered(self.FOURS[0], wide, narrow)
        self.assertEqual(found[4:47], [[0, 2, 0, 0, 2]] * 43)
        self.assertEqual(found[47:50], [[0], [0], [0]])
        self.assertEqual(found[50:53], [[0], [1], [self.parted(10)]])
        self.assertEqual(found[53:57], [[2, 0, 0], [2, 2, 2], [2, 3, 3], [2, 4, 4]])
        self.assertEqual(found[57:], [[3, 0, 1, 1, 2, 3], [7, 4], [0] + [1] * 8])

    @staticmethod
    def parted(many):
        """Rows of so many steps in which 1s part the others so that none of these comes twice in one part."""
        parts = [math.perm(4, length) for length in range(5)]
        rows = []
        for length in range(many + 1):
            rows.append((parts[length] if length < 5 else 0) + sum(
                parts[part] * rows[length - part - 1] for part in range(min(length, 5))
            ))
        return rows[many]

    def test_the_longest_list(self):
        # All rows are as long as the interface lets them be, and all are refused.
        calls = (rule(*([0] * 20)) + judge(*([0] * 20))) * 25 + nearest(*([0] * 20)) * 10
        self.assertEqual(len(calls), 1320)
        self.assertEqual(answers(calls), [1, -1] * 60)


if __name__ == "__main__":
    unittest.main()
