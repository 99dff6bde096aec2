import math
import random
import unittest

from tests.plain import LARGEST, ask, count, drop, every_rule, rule, short_rows, with_rules


def counted(told, many):
    return with_rules(told, count(many))[0]


def right_behind(many):
    """Rows in which right behind each a there's a b: another step than a, or a and b together."""
    rows = [1, 4]
    while len(rows) <= many:
        rows.append(4 * rows[-1] + rows[-2])
    return rows[many]


def between(many):
    """Rows in which between each a and the next a there's a b: those that may go on with an a, and those that not."""
    free, waiting = 1, 0
    for turn in range(many):
        free, waiting = 4 * free + waiting, free + 3 * waiting
    return free + waiting


class Count(unittest.TestCase):
    def test_no_rules(self):
        self.assertEqual(ask(count(0), count(1), count(2), count(10)), [[1], [5], [25], [9765625]])

    def test_edge_of_many(self):
        self.assertEqual(ask(count(10), count(11), count(12), count(LARGEST)), [[9765625], [-1], [-1], [-1]])
        self.assertEqual(with_rules([(2, 0)], count(10), count(11), count(LARGEST)), [[5 ** 9], [-1], [-1]])

    def test_0_steps(self):
        self.assertEqual(counted([(4, 0, 1), (5, 0, 1), (6, 0, 1), (8, 0, 1)], 0), [1])
        self.assertEqual(counted([(7, 0, 1), (1, 0, 0), (0, 0, 0)], 0), [1])
        for told in ([(0, 0, 1)], [(2, 0)], [(3, 0)], [(4, 0, 1), (3, 2)]):
            self.assertEqual(counted(told, 0), [0])

    def test_1_step(self):
        self.assertEqual(counted([(2, 3)], 1), [1])
        self.assertEqual(counted([(4, 0, 1), (5, 2, 3)], 1), [3])
        self.assertEqual(counted([(0, 2, 2)], 1), [0])

    def test_each_kind(self):
        for many in (1, 2, 5, 9, 10):
            neither = 3 ** many
            wanted = {
                (0, 2, 1): 5 ** many - 4 ** many,
                (0, 2, 3): sum(math.comb(many, k) * 4 ** (many - k) for k in range(3, many + 1)),
                (1, 2, 0): 4 ** many,
                (1, 2, 3): sum(math.comb(many, k) * 4 ** (many - k) for k in range(min(many, 3) + 1)),
                (2, 2): 5 ** (many - 1),
                (3, 2): 5 ** (many - 1),
                # Of rows with an a or a b, the last of these is as often an a as a b; the first as well.
                (4, 2, 4): neither + (5 ** many - neither) // 2,
                (5, 2, 4): neither + (5 ** many - neither) // 2,
                (6, 2, 4): right_behind(many),
                (7, 2, 4): 2 * 4 ** many - neither,
                (8, 2, 4): between(many),
            }
            for numbers in wanted:
                self.assertEqual(counted([numbers], many), [wanted[numbers]], (numbers, many))

    def test_four_rules(self):
        self.assertEqual(counted([(2, 0), (3, 1), (1, 4, 0), (1, 3, 0)], 10), [3 ** 8])
        self.assertEqual(counted([(0, 0, 3), (0, 1, 3), (0, 2, 3), (0, 3, 1)], 10), [math.factorial(10) // 6 ** 3])

    def test_no_row_keeps_all(self):
        for told in ([(2, 0), (2, 1)], [(0, 2, 2), (1, 2, 1)], [(0, 0, 1), (0, 1, 1), (7, 0, 1), (2, 4)]):
            for many in range(11):
                self.assertEqual(counted(told, many), [0])
            self.assertEqual(counted(told, 11), [-1])

    def test_follows_rules_told_and_dropped(self):
        calls = (count(2), rule(2, 0), count(2), rule(3, 1), count(2), drop(0), count(2), drop(0), count(2))
        self.assertEqual(ask(*calls)[::2], [[25], [5], [1], [5], [25]])

    def test_against_plain_search(self):
        chance = random.Random(11)
        rules = every_rule()
        chosen = [[numbers] for numbers in rules]
        chosen += [[chance.choice(rules) for place in range(many)] for many in (2, 3, 4) for turn in range(20)]
        for told in chosen:
            many = chance.randrange(7)
            self.assertEqual(counted(told, many), [short_rows().count(told, many)], (told, many))


if __name__ == "__main__":
    unittest.main()
