import itertools
import random
import unittest

from tests.plain import (
    LARGEST, ask, breaks, drop, every_rule, is_kept, rows_of_three, rule, short_rows, with_rules,
)


def breaking(told, which):
    return with_rules(told, breaks(which))[0]


class Breaks(unittest.TestCase):
    FOUR = [(2, 3), (4, 3, 1), (0, 2, 1), (1, 4, 0)]

    def test_the_first(self):
        self.assertEqual(breaking(self.FOUR, 0), [1, 2])

    def test_a_middle_one(self):
        self.assertEqual(breaking(self.FOUR, 1), [2, 3, 2])
        self.assertEqual(breaking(self.FOUR, 2), [2, 3, 1])

    def test_the_last(self):
        self.assertEqual(breaking(self.FOUR, 3), [4, 3, 1, 2, 4])

    def test_the_only_one(self):
        wanted = {
            (0, 2, 1): [0], (0, 2, 3): [0], (1, 2, 0): [1, 2], (1, 2, 3): [4, 2, 2, 2, 2], (2, 2): [0], (3, 2): [0],
            (4, 2, 1): [1, 2], (5, 2, 1): [1, 1], (6, 2, 1): [1, 2], (7, 2, 1): [2, 1, 2], (8, 2, 1): [2, 2, 2],
        }
        for numbers in wanted:
            self.assertEqual(breaking([numbers], 0), wanted[numbers], numbers)

    def test_no_such_rule(self):
        self.assertEqual(ask(breaks(0), breaks(1), breaks(LARGEST)), [[-2], [-2], [-2]])
        self.assertEqual(with_rules([(2, 0)], breaks(0), breaks(1), breaks(LARGEST)), [[0], [-2], [-2]])
        self.assertEqual(with_rules(self.FOUR, breaks(4), breaks(5), breaks(LARGEST)), [[-2], [-2], [-2]])

    def test_one_that_follows_from_the_others(self):
        self.assertEqual(breaking([(0, 0, 0)], 0), [-6])
        self.assertEqual(with_rules([(2, 0), (5, 0, 1)], breaks(0), breaks(1)), [[0], [-6]])
        self.assertEqual(with_rules([(7, 0, 1), (7, 1, 0)], breaks(0), breaks(1)), [[-6], [-6]])
        self.assertEqual(breaking([(4, 0, 1), (4, 0, 2), (4, 1, 2)], 1), [-6])

    def test_rules_that_no_row_keeps_all_of(self):
        self.assertEqual(with_rules([(2, 0), (2, 1)], breaks(0), breaks(1), breaks(2)), [[1, 1], [1, 0], [-2]])
        clashing = [(2, 0), (2, 1), (3, 4)]
        self.assertEqual(with_rules(clashing, breaks(0), breaks(1), breaks(2)), [[2, 1, 4], [2, 0, 4], [-6]])

    def test_the_earliest_of_as_long_rows(self):
        self.assertEqual(breaking([(7, 1, 0)], 0), [2, 0, 1])
        self.assertEqual(breaking([(7, 3, 1), (5, 3, 1)], 0), [2, 3, 1])
        self.assertEqual(breaking([(2, 2), (0, 4, 1), (0, 1, 1)], 0), [2, 1, 4])
        self.assertEqual(breaking([(0, 3, 2), (3, 0), (0, 3, 1), (0, 2, 1)], 0), [3, 2, 3, 0])
        self.assertEqual(breaking([(8, 2, 0), (2, 2), (3, 2), (0, 1, 1)], 0), [3, 2, 1, 2])
        self.assertEqual(breaking([(6, 1, 0), (0, 0, 2), (0, 1, 1)], 0), [3, 0, 0, 1])

    def test_a_shorter_row_comes_ahead_of_one_with_lower_steps(self):
        self.assertEqual(breaking([(1, 4, 0), (4, 0, 4)], 0), [1, 4])

    def test_rows_longer_than_judge_takes(self):
        self.assertEqual(breaking([(1, 0, 3), (6, 0, 1), (6, 1, 2), (6, 2, 3)], 0), [16] + [0, 1, 2, 3] * 4)

    def test_follows_rules_told_and_dropped(self):
        calls = (rule(2, 0), rule(3, 1), breaks(0), drop(0), breaks(0), rule(1, 1, 1), breaks(1), breaks(0))
        self.assertEqual(ask(*calls), [[0], [1], [1, 1], [1], [0], [1], [2, 1, 1], [0]])


class AgainstPlainSearch(unittest.TestCase):
    def compare(self, told):
        for which in range(len(told)):
            row = short_rows().breaks(told, which)
            answered = breaking(told, which)
            if row is not None:
                self.assertEqual(answered, [len(row), *row], (told, which))
            elif answered != [-6]:
                self.assertGreater(answered[0], short_rows().longest, (told, which))
                kept = [is_kept(numbers, answered[1:]) for numbers in told]
                self.assertEqual(kept, [k != which for k in range(len(told))], (told, which, answered))

    def test_every_rule_alone(self):
        for numbers in every_rule():
            self.compare([numbers])

    def test_two_rules(self):
        chance = random.Random(41)
        pairs = list(itertools.permutations(every_rule(), 2))
        for told in chance.sample(pairs, 3000):
            self.compare(list(told))

    def test_three_and_four_rules(self):
        chance = random.Random(42)
        rules = every_rule()
        for many in (3, 4):
            for turn in range(600):
                self.compare([chance.choice(rules) for place in range(many)])

    def test_rules_that_hang_together(self):
        chance = random.Random(43)
        close = list(rows_of_three().keeping)
        for turn in range(1500):
            told = [chance.choice(close) for place in range(1 + turn % 4)]
            for which in range(len(told)):
                row = rows_of_three().breaks(told, which)
                self.assertEqual(breaking(told, which), [-6] if row is None else [len(row), *row], (told, which))


if __name__ == "__main__":
    unittest.main()
