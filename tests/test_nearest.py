import random
import unittest

from tests.plain import (
    LARGEST, PlainRows, ask, begins, drop, every_rule, far_apart, is_kept, nearest, rows_up_to, rule, speaks_of,
    with_rules,
)


def near(told, *row):
    return with_rules(told, nearest(*row))[0]


class Nearest(unittest.TestCase):
    def test_no_rules(self):
        self.assertEqual(ask(nearest(), nearest(4), nearest(3, 1, 3)), [[0], [0, 4], [0, 3, 1, 3]])
        self.assertEqual(ask(nearest(4, 3, 2, 1, 0, 1, 2, 3)), [[0, 4, 3, 2, 1, 0, 1, 2, 3]])

    def test_a_row_that_keeps_all_already(self):
        self.assertEqual(near([(2, 3), (3, 1), (4, 3, 1), (8, 3, 1)], 3, 1, 3, 2, 1), [0, 3, 1, 3, 2, 1])
        self.assertEqual(near([(7, 0, 1)], 4, 4, 4, 4, 4, 4, 4, 0), [0, 4, 4, 4, 4, 4, 4, 4, 0])
        self.assertEqual(near([(0, 0, 0), (1, 2, 3)], 2, 2, 2), [0, 2, 2, 2])

    def test_the_empty_row(self):
        self.assertEqual(near([(4, 0, 1), (1, 2, 0)]), [0])
        self.assertEqual(near([(2, 3)]), [1, 3])
        self.assertEqual(near([(3, 1), (2, 4)]), [2, 4, 1])
        self.assertEqual(near([(0, 2, 3), (0, 1, 1)]), [4, 1, 2, 2, 2])

    def test_each_kind(self):
        self.assertEqual(near([(0, 1, 2)], 1, 3), [1, 1, 1, 3])
        self.assertEqual(near([(1, 1, 1)], 1, 3, 1), [1, 1, 3])
        self.assertEqual(near([(2, 1)], 3, 1, 2), [1, 1, 2])
        self.assertEqual(near([(3, 1)], 3, 1, 2), [1, 3, 1])
        self.assertEqual(near([(4, 1, 2)], 2, 1, 3, 1), [1, 2, 1, 3, 1, 2])
        self.assertEqual(near([(5, 1, 2)], 2, 3, 2), [1, 1, 2, 3, 2])
        self.assertEqual(near([(6, 1, 2)], 1, 3, 1, 2), [1, 3, 1, 2])
        self.assertEqual(near([(7, 1, 2)], 1, 2, 1, 1), [1, 1, 1, 1])
        self.assertEqual(near([(8, 1, 2)], 1, 1), [1, 1])

    def test_a_longer_row_that_is_less_far(self):
        self.assertEqual(near([(3, 1)], 0, 0, 0, 0), [1, 0, 0, 0, 0, 1])
        self.assertEqual(near([(4, 0, 1)], 0, 0, 2), [1, 0, 0, 1, 2])
        self.assertEqual(near([(2, 4)], 0, 0), [1, 4, 0, 0])

    def test_a_step_changed_is_one_left_out_and_one_put_in(self):
        self.assertEqual(near([(2, 1), (3, 1), (1, 1, 1)], 0), [2, 1])
        self.assertEqual(near([(2, 0), (3, 1)], 1, 0), [2, 0, 1])

    def test_the_shorter_of_rows_as_near(self):
        self.assertEqual(near([(4, 0, 1)], 0), [1])
        self.assertEqual(near([(4, 0, 1)], 2, 0), [1, 2])
        self.assertEqual(near([(5, 0, 4)], 3, 4, 3), [1, 3, 3])
        self.assertEqual(near([(6, 0, 1)], 4, 0, 4), [1, 4, 4])
        # Shorter, though the longer one has a lower step where they differ first.
        self.assertEqual(near([(5, 0, 4)], 4, 3), [1, 3])

    def test_the_lower_step_of_rows_as_near_and_as_long(self):
        self.assertEqual(near([(7, 0, 1)], 0, 1), [1, 0])
        self.assertEqual(near([(7, 0, 1)], 1, 0), [1, 0])
        self.assertEqual(near([(7, 3, 2)], 4, 3, 1, 2), [1, 4, 1, 2])
        self.assertEqual(near([(0, 2, 1)], 1, 3, 0), [1, 1, 2, 3, 0])
        self.assertEqual(near([(0, 0, 1)], 1, 2), [1, 0, 1, 2])
        self.assertEqual(near([(0, 4, 1)], 3, 2), [1, 3, 2, 4])
        self.assertEqual(near([(1, 0, 1)], 0, 1, 0), [1, 0, 1])
        self.assertEqual(near([(1, 1, 1)], 1, 0, 1), [1, 0, 1])
        self.assertEqual(near([(0, 0, 1), (0, 1, 1)], 2), [2, 0, 1, 2])

    def test_edge_of_length(self):
        eight, nine = [4] * 8, [4] * 9
        self.assertEqual(ask(nearest(*eight), nearest(*nine), nearest(*([4] * 20))), [[0] + eight, [-1], [-1]])
        answered = with_rules([(2, 0)], nearest(*eight), nearest(*nine), nearest(*([0] * 20)))
        self.assertEqual(answered, [[1, 0] + eight, [-1], [-1]])

    def test_rows_longer_than_eight_are_answered(self):
        counting = [(0, step, 3) for step in range(4)]
        self.assertEqual(near(counting, *([4] * 8)), [12] + [0, 0, 0, 1, 1, 1, 2, 2, 2, 3, 3, 3] + [4] * 8)
        self.assertEqual(near([(6, 0, 1), (0, 0, 3)], *([0] * 8)), [8] + [0, 1] * 3)

    def test_edge_of_a_step(self):
        self.assertEqual(ask(nearest(4), nearest(5), nearest(LARGEST)), [[0, 4], [-1], [-1]])
        for place in range(8):
            row = [0] * 8
            row[place] = 5
            self.assertEqual(near([(2, 0)], *row), [-1])
            row[place] = LARGEST
            self.assertEqual(near([(2, 0)], *row), [-1])

    def test_no_such_row(self):
        clashing = [(2, 0), (2, 1)]
        self.assertEqual(with_rules(clashing, nearest(), nearest(0), nearest(*([0] * 8))), [[-6], [-6], [-6]])
        self.assertEqual(near([(0, 0, 1), (0, 1, 1), (7, 0, 1), (8, 2, 3)], 0, 1), [-6])
        self.assertEqual(near([(4, 0, 1), (4, 1, 0), (0, 0, 1)], 0, 1, 0), [-6])

    def test_a_wrong_row_is_told_first(self):
        self.assertEqual(with_rules([(2, 0), (2, 1)], nearest(5), nearest(*([0] * 9))), [[-1], [-1]])

    def test_follows_rules_told_and_dropped(self):
        calls = (rule(2, 3), nearest(1), rule(3, 3), nearest(1), drop(0), nearest(1), begins(), nearest(1))
        self.assertEqual(ask(*calls)[1::2], [[1, 3, 1], [2, 3], [1, 1, 3], [0, 1]])


def one_move(row, steps=5):
    """All rows that are made of this one by leaving one step out, or by putting one in."""
    shorter = [row[:k] + row[k + 1:] for k in range(len(row))]
    return shorter + [row[:k] + (step,) + row[k:] for k in range(len(row) + 1) for step in range(steps)]


class FarApart(unittest.TestCase):
    """The tests' own measure, against making every row of another one move by move."""

    def test_against_moves(self):
        rows = rows_up_to(4, 2)
        for row in rows:
            reached = {row: 0}
            front = [row]
            while front:
                moved = {other: reached[made] + 1 for made in front for other in one_move(made, 2) if len(other) <= 8}
                front = [other for other in moved if other not in reached]
                reached.update({other: moved[other] for other in front})
            for other in rows:
                self.assertEqual(far_apart(row, other), reached[other], (row, other))


class AgainstPlainSearch(unittest.TestCase):
    def compare(self, plain, told, row, by_nearness):
        """Whether the short rows could tell the nearest one."""
        found = plain.nearest(told, by_nearness)
        answered = near(told, *row)
        # A row that is not among the short ones is at least so far, and then later than a short one.
        outside = plain.longest + 1 - len(row)
        if found is not None and found[0] <= outside:
            self.assertEqual(answered, [found[0], *found[1]], (told, row))
            return True
        if answered != [-6]:
            self.assertGreaterEqual(answered[0], outside, (told, row))
            self.assertEqual(far_apart(row, answered[1:]), answered[0], (told, row))
            self.assertTrue(all(is_kept(numbers, answered[1:]) for numbers in told), (told, row))
        return False

    def compare_all(self, plain, rows, turns, chance, surely):
        orders = {row: plain.by_nearness(row) for row in rows}
        rules = list(plain.keeping)
        sure = 0
        for turn in range(turns):
            told = [chance.choice(rules) for place in range(1 + turn % 4)]
            for row in chance.sample(rows, 2):
                sure += self.compare(plain, told, row, orders[row])
        self.assertGreater(sure, surely)

    def test_rules_of_all_steps(self):
        plain = PlainRows(every_rule(), 5)
        chance = random.Random(51)
        rows = [()] + chance.sample(rows_up_to(4), 25)
        self.compare_all(plain, rows, 2000, chance, 2500)

    def test_rules_that_hang_together(self):
        plain = PlainRows([numbers for numbers in every_rule() if speaks_of(numbers, 3)], 8, 3)
        chance = random.Random(52)
        rows = chance.sample(rows_up_to(5, 3), 15)
        self.compare_all(plain, rows, 2000, chance, 2000)

    def test_rows_of_eight_steps(self):
        # Too many rows are about as long as these: here all rows that up to two moves make are gone through.
        chance = random.Random(53)
        rules = every_rule()
        sure = 0
        for row in [tuple(chance.choices(range(5), k=8)) for turn in range(40)]:
            levels = [{row}]
            for far in (1, 2):
                levels.append({other for made in levels[-1] for other in one_move(made)})
            for turn in range(10):
                told = [chance.choice(rules) for place in range(1 + turn % 4)]
                sure += self.compare_levels(told, row, levels)
        self.assertGreater(sure, 200)

    def compare_levels(self, told, row, levels):
        answered = near(told, *row)
        for far, level in enumerate(levels):
            keeping = [other for other in level if all(is_kept(numbers, other) for numbers in told)]
            if keeping:
                found = min(keeping, key=lambda other: (len(other), other))
                self.assertEqual(answered, [far, *found], (told, row))
                return True
        self.assertTrue(answered == [-6] or answered[0] >= len(levels), (told, row, answered))
        return False


if __name__ == "__main__":
    unittest.main()
