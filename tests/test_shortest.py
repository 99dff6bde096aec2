import itertools
import random
import unittest

from tests.plain import (
    ask, begins, drop, every_rule, is_kept, last, rows_of_three, rule, short_rows, shortest, speaks_of,
)


def asked(told):
    return last(*[rule(*numbers) for numbers in told], shortest())


class Shortest(unittest.TestCase):
    def test_no_rules(self):
        self.assertEqual(ask(shortest()), [[0]])

    def test_the_empty_row(self):
        for told in ([(4, 0, 1), (5, 2, 3), (6, 1, 0), (8, 3, 4)], [(7, 0, 1)], [(1, 2, 0)], [(0, 4, 0)]):
            self.assertEqual(asked(told), [0])

    def test_one_step(self):
        for step in range(5):
            self.assertEqual(asked([(2, step)]), [1, step])
            self.assertEqual(asked([(3, step)]), [1, step])
            self.assertEqual(asked([(0, step, 1)]), [1, step])

    def test_no_such_row(self):
        self.assertEqual(asked([(2, 0), (2, 1)]), [-6])
        self.assertEqual(asked([(3, 4), (3, 3)]), [-6])
        self.assertEqual(asked([(0, 2, 2), (1, 2, 1)]), [-6])
        self.assertEqual(asked([(0, 0, 1), (0, 1, 1), (7, 1, 0)]), [-6])
        self.assertEqual(asked([(4, 0, 1), (4, 1, 0), (0, 0, 1)]), [-6])
        self.assertEqual(asked([(6, 0, 1), (6, 1, 2), (6, 2, 0), (2, 0)]), [-6])
        self.assertEqual(asked([(2, 0), (3, 0), (4, 0, 1)]), [-6])

    def test_behind_no_such_row_all_is_as_it_was(self):
        calls = (rule(2, 0), rule(2, 1), shortest(), shortest(), drop(0), shortest(), begins(), shortest())
        self.assertEqual(ask(*calls), [[0], [1], [-6], [-6], [1], [1, 1], [0], [0]])

    def test_the_earliest_of_as_long_rows(self):
        self.assertEqual(asked([(0, 3, 1), (0, 1, 1), (0, 2, 1)]), [3, 1, 2, 3])
        self.assertEqual(asked([(0, 1, 2), (0, 0, 1)]), [3, 0, 1, 1])
        self.assertEqual(asked([(2, 4), (3, 4), (0, 4, 2), (8, 4, 2)]), [3, 4, 2, 4])
        self.assertEqual(asked([(2, 1), (3, 3), (0, 2, 1)]), [3, 1, 2, 3])
        self.assertEqual(asked([(4, 0, 3), (0, 0, 2)]), [3, 0, 0, 3])

    def test_a_shorter_row_comes_ahead_of_one_with_lower_steps(self):
        self.assertEqual(asked([(0, 4, 1), (4, 0, 4)]), [1, 4])
        self.assertEqual(asked([(3, 3), (5, 0, 2)]), [1, 3])

    def test_rows_longer_than_judge_takes(self):
        self.assertEqual(asked([(0, 3, 3), (0, 1, 3), (0, 4, 3), (0, 0, 3)]), [12] + sorted([0, 1, 3, 4] * 3))
        self.assertEqual(asked([(0, 0, 3), (6, 0, 1), (6, 1, 2), (6, 2, 3)]), [12] + [0, 1, 2, 3] * 3)

    def test_follows_rules_told_and_dropped(self):
        calls = (rule(2, 3), shortest(), rule(3, 1), shortest(), drop(0), shortest(), drop(0), shortest())
        self.assertEqual(ask(*calls)[1::2], [[1, 3], [2, 3, 1], [1, 1], [0]])


class AgainstPlainSearch(unittest.TestCase):
    def compare(self, told):
        row = short_rows().shortest(told)
        answered = asked(told)
        if row is not None:
            self.assertEqual(answered, [len(row), *row], told)
        elif answered != [-6]:
            self.assertGreater(answered[0], short_rows().longest, told)
            self.assertEqual(answered[0], len(answered) - 1, told)
            for numbers in told:
                self.assertTrue(is_kept(numbers, answered[1:]), (told, answered))
        return row, answered

    def test_every_rule_alone(self):
        for numbers in every_rule():
            self.compare([numbers])

    def test_every_two_rules(self):
        # No two rules need more than 6 steps, so here the plain search also tells that there is no such row.
        for told in itertools.combinations(every_rule(), 2):
            row, answered = self.compare(told)
            if row is None:
                self.assertEqual(answered, [-6], told)

    def test_three_and_four_rules(self):
        chance = random.Random(1)
        rules = every_rule()
        for many in (3, 4):
            for turn in range(3000):
                self.compare([chance.choice(rules) for place in range(many)])

    def test_rules_that_hang_together(self):
        # Rules of two or three steps only meet each other far more often than those of all five.
        chance = random.Random(2)
        for steps in (2, 3):
            close = [numbers for numbers in every_rule() if speaks_of(numbers, steps)]
            for turn in range(3000):
                self.compare([chance.choice(close) for place in range(4)])


class LongPlainSearch(unittest.TestCase):
    def test_refused_only_where_no_longer_row_is_there(self):
        close = list(rows_of_three().keeping)
        chance = random.Random(3)
        for turn in range(3000):
            told = [chance.choice(close) for place in range(4)]
            row = rows_of_three().shortest(told)
            self.assertEqual(asked(told), [-6] if row is None else [len(row), *row], told)


if __name__ == "__main__":
    unittest.main()
