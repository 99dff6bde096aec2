import random
import unittest

from tests.plain import (
    ask, breaks, drop, every_rule, is_kept, rows_of_three, rule, short_rows, spare, with_rules,
)


def following(told):
    return with_rules(told, spare())[0]


class Spare(unittest.TestCase):
    def test_no_rules(self):
        self.assertEqual(ask(spare()), [[0]])

    def test_a_rule_that_every_row_keeps(self):
        for step in range(5):
            self.assertEqual(following([(0, step, 0)]), [1, 0])
        self.assertEqual(following([(2, 1), (0, 0, 0)]), [1, 1])
        self.assertEqual(following([(0, 0, 0), (2, 1), (0, 3, 0), (3, 2)]), [2, 0, 2])

    def test_no_other_rule_is_kept_by_every_row(self):
        for numbers in every_rule():
            self.assertEqual(following([numbers]), [1, 0] if numbers[0] == 0 and numbers[2] == 0 else [0], numbers)

    def test_each_follows_from_the_other(self):
        self.assertEqual(following([(2, 0), (2, 0)]), [2, 0, 1])
        self.assertEqual(following([(7, 0, 1), (7, 1, 0)]), [2, 0, 1])
        self.assertEqual(following([(3, 4), (7, 0, 1), (2, 2), (7, 1, 0)]), [2, 1, 3])

    def test_one_follows_from_another(self):
        self.assertEqual(following([(0, 1, 2), (0, 1, 3)]), [1, 0])
        self.assertEqual(following([(1, 1, 2), (1, 1, 3)]), [1, 1])
        self.assertEqual(following([(6, 0, 1), (4, 0, 1)]), [1, 1])
        self.assertEqual(following([(6, 0, 1), (8, 0, 1)]), [1, 1])
        self.assertEqual(following([(2, 0), (5, 0, 1)]), [1, 1])
        self.assertEqual(following([(4, 0, 1), (3, 1)]), [1, 0])

    def test_one_follows_from_several(self):
        self.assertEqual(following([(4, 0, 1), (4, 1, 2), (4, 0, 2)]), [1, 2])
        self.assertEqual(following([(5, 0, 2), (5, 0, 1), (5, 1, 2)]), [1, 0])
        self.assertEqual(following([(2, 0), (3, 1), (0, 0, 1), (0, 1, 1)]), [2, 2, 3])

    def test_all_follow(self):
        self.assertEqual(following([(8, 1, 2)] * 4), [4, 0, 1, 2, 3])

    def test_none_follows(self):
        self.assertEqual(following([(2, 0), (3, 1)]), [0])
        self.assertEqual(following([(0, 0, 1), (0, 1, 1), (0, 2, 1), (0, 3, 1)]), [0])
        self.assertEqual(following([(4, 0, 1), (5, 0, 1), (8, 0, 1), (7, 2, 3)]), [0])

    def test_rules_that_no_row_keeps_all_of(self):
        # Where no row keeps all the others, each such row keeps the one, whatever it says.
        self.assertEqual(following([(2, 0), (2, 1)]), [0])
        self.assertEqual(following([(2, 0), (2, 1), (3, 4)]), [1, 2])
        self.assertEqual(following([(3, 4), (2, 0), (7, 0, 1), (2, 1)]), [2, 0, 2])
        self.assertEqual(following([(2, 0), (2, 1), (2, 2)]), [3, 0, 1, 2])
        self.assertEqual(following([(2, 0), (2, 1), (3, 0), (3, 1)]), [4, 0, 1, 2, 3])
        self.assertEqual(following([(0, 0, 1), (0, 1, 1), (7, 0, 1)]), [0])

    def test_only_a_row_longer_than_judge_takes_tells_that_it_does_not_follow(self):
        told = [(1, 0, 3), (6, 0, 1), (6, 1, 2), (6, 2, 3)]
        self.assertEqual(following(told), [0])
        self.assertEqual(with_rules(told, breaks(0))[0][0], 16)

    def test_follows_rules_told_and_dropped(self):
        calls = (rule(2, 0), rule(2, 0), spare(), drop(0), spare(), rule(5, 0, 4), spare())
        self.assertEqual(ask(*calls)[2::2], [[2, 0, 1], [0], [1, 1]])


class AgainstPlainSearch(unittest.TestCase):
    def test_rules_of_all_steps(self):
        chance = random.Random(31)
        rules = every_rule()
        for turn in range(3000):
            told = [chance.choice(rules) for place in range(1 + turn % 4)]
            answered, *broken = with_rules(told, spare(), *[breaks(which) for which in range(len(told))])
            self.assertEqual(answered[0], len(answered) - 1)
            for which in range(len(told)):
                self.look_at(told, which, which in answered[1:], broken[which])

    def look_at(self, told, which, follows, row):
        self.assertEqual(follows, row == [-6], (told, which))
        if short_rows().breaks(told, which) is not None:
            self.assertFalse(follows, (told, which))
        elif not follows:
            # No short row tells so: then the longer one that is answered must.
            self.assertGreater(row[0], short_rows().longest)
            kept = [is_kept(numbers, row[1:]) for numbers in told]
            self.assertEqual(kept, [k != which for k in range(len(told))], (told, which, row))

    def test_rules_that_hang_together(self):
        chance = random.Random(32)
        close = list(rows_of_three().keeping)
        for turn in range(3000):
            told = [chance.choice(close) for place in range(2 + turn % 3)]
            found = rows_of_three().spare(told)
            self.assertEqual(following(told), [len(found), *found], told)


if __name__ == "__main__":
    unittest.main()
