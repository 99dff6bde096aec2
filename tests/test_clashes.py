import itertools
import random
import unittest

from tests.plain import ask, begins, clashes, drop, every_rule, rows_of_three, rule, short_rows, with_rules


def clashing(told):
    return with_rules(told, clashes())[0]


def as_told(found):
    """Clashes as the answer tells them."""
    return [len(found)] + [number for clash in found for number in [len(clash), *clash]]


class Clashes(unittest.TestCase):
    def test_no_rules(self):
        self.assertEqual(ask(clashes()), [[0]])

    def test_one_rule_never_clashes(self):
        # Each of the rules is kept by some row, so no set of one rule is ever told.
        for numbers in every_rule():
            self.assertEqual(clashing([numbers]), [0], numbers)

    def test_rules_that_one_row_keeps(self):
        self.assertEqual(clashing([(2, 0), (3, 1)]), [0])
        self.assertEqual(clashing([(0, 0, 3), (6, 0, 1), (6, 1, 2), (6, 2, 3)]), [0])
        self.assertEqual(clashing([(4, 0, 1), (4, 1, 0)]), [0])

    def test_two_rules(self):
        self.assertEqual(clashing([(2, 0), (2, 1)]), [1, 2, 0, 1])
        self.assertEqual(clashing([(0, 4, 3), (1, 4, 2)]), [1, 2, 0, 1])
        self.assertEqual(clashing([(0, 4, 3), (1, 4, 3)]), [0])

    def test_three_rules(self):
        self.assertEqual(clashing([(0, 0, 1), (0, 1, 1), (7, 0, 1)]), [1, 3, 0, 1, 2])
        self.assertEqual(clashing([(4, 0, 1), (4, 1, 0), (0, 0, 1)]), [1, 3, 0, 1, 2])

    def test_four_rules(self):
        self.assertEqual(clashing([(6, 0, 1), (6, 1, 2), (6, 2, 0), (2, 0)]), [1, 4, 0, 1, 2, 3])
        self.assertEqual(clashing([(0, 0, 1), (4, 0, 1), (4, 1, 2), (1, 2, 0)]), [1, 4, 0, 1, 2, 3])

    def test_some_of_the_rules(self):
        self.assertEqual(clashing([(2, 0), (4, 0, 1), (2, 1)]), [1, 2, 0, 2])
        self.assertEqual(clashing([(7, 2, 3), (3, 0), (3, 1), (8, 2, 1)]), [1, 2, 1, 2])
        self.assertEqual(clashing([(4, 3, 2), (0, 0, 1), (0, 1, 1), (7, 1, 0)]), [1, 3, 1, 2, 3])

    def test_several_of_the_same_size(self):
        firsts = [(2, step) for step in range(4)]
        self.assertEqual(clashing(firsts[:3]), [3, 2, 0, 1, 2, 0, 2, 2, 1, 2])
        pairs = [[0, 1], [0, 2], [0, 3], [1, 2], [1, 3], [2, 3]]
        self.assertEqual(clashing(firsts), as_told(pairs))
        self.assertEqual(clashing([(2, 0), (2, 1), (3, 0), (3, 1)]), [2, 2, 0, 1, 2, 2, 3])
        self.assertEqual(clashing([(2, 0), (3, 0), (3, 1), (2, 1)]), [2, 2, 0, 3, 2, 1, 2])

    def test_several_of_three_rules(self):
        self.assertEqual(clashing([(0, 0, 1), (0, 1, 1), (7, 0, 1), (7, 1, 0)]), [2, 3, 0, 1, 2, 3, 0, 1, 3])
        self.assertEqual(clashing([(7, 0, 1), (0, 0, 1), (0, 1, 1), (7, 1, 0)]), [2, 3, 0, 1, 2, 3, 1, 2, 3])

    def test_fewer_rules_come_first(self):
        self.assertEqual(clashing([(0, 0, 1), (0, 1, 1), (7, 0, 1), (1, 1, 0)]), [2, 2, 1, 3, 3, 0, 1, 2])
        self.assertEqual(clashing([(0, 0, 1), (7, 0, 1), (0, 1, 1), (1, 1, 0)]), [2, 2, 2, 3, 3, 0, 1, 2])

        # What is opened is closed, and closed is opened: no row that begins with either comes to an end.
        self.assertEqual(clashing([(2, 0), (2, 1), (4, 0, 1), (4, 1, 0)]), as_told([[0, 1], [0, 2, 3], [1, 2, 3]]))

    def test_no_set_of_which_a_part_clashes(self):
        self.assertEqual(clashing([(2, 0), (2, 1), (4, 0, 1), (7, 3, 4)]), [1, 2, 0, 1])
        self.assertEqual(clashing([(0, 0, 1), (7, 0, 1), (0, 1, 1), (2, 4)]), [1, 3, 0, 1, 2])
        self.assertEqual(clashing([(2, 0), (2, 1), (2, 0)]), [2, 2, 0, 1, 2, 1, 2])

    def test_the_same_rule_told_again_counts_as_another(self):
        self.assertEqual(clashing([(2, 0), (2, 0), (2, 1), (2, 1)]), as_told([[0, 2], [0, 3], [1, 2], [1, 3]]))

    def test_follows_rules_told_and_dropped(self):
        calls = (rule(2, 0), rule(2, 1), clashes(), drop(0), clashes(), begins(), clashes())
        self.assertEqual(ask(*calls)[2::2], [[1, 2, 0, 1], [0], [0]])


class AgainstPlainSearch(unittest.TestCase):
    def compare(self, plain, told):
        found = plain.clashes(told)
        self.assertEqual(clashing(told), as_told(found), told)
        return found

    def test_every_two_rules(self):
        # No two rules need more than 6 steps to be kept together.
        for told in itertools.combinations(every_rule(), 2):
            self.compare(short_rows(), list(told))

    def test_rules_that_need_short_rows(self):
        chance = random.Random(21)
        low = [numbers for numbers in every_rule() if numbers[0] > 1 or numbers[2] <= 1]
        for turn in range(2000):
            self.compare(short_rows(), [chance.choice(low) for place in range(chance.choice((3, 4)))])

    def test_rules_that_hang_together(self):
        chance = random.Random(22)
        close = list(rows_of_three().keeping)
        sizes = {}
        for turn in range(3000):
            for clash in self.compare(rows_of_three(), [chance.choice(close) for place in range(4)]):
                sizes[len(clash)] = sizes.get(len(clash), 0) + 1
        self.assertEqual(sorted(sizes), [2, 3, 4])


if __name__ == "__main__":
    unittest.main()
