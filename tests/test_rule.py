import unittest

from tests.plain import LARGEST, ask, begins, drop, every_rule, judge, last, rule, shortest


class RuleForms(unittest.TestCase):
    def refused(self, *numbers):
        self.assertEqual(ask(rule(*numbers)), [[-1]], numbers)

    def taken(self, *numbers):
        self.assertEqual(ask(rule(*numbers)), [[0]], numbers)

    def test_every_rule_is_taken(self):
        rules = every_rule()
        self.assertEqual(len(rules), 150)
        for numbers in rules:
            self.taken(*numbers)

    def test_all_small_lists_are_taken_or_refused_as_told(self):
        rules = set(every_rule())
        for kind in range(11):
            for a in range(7):
                self.assertEqual(ask(rule(kind, a)), [[0 if (kind, a) in rules else -1]], (kind, a))
                for b in range(7):
                    wanted = 0 if (kind, a, b) in rules else -1
                    self.assertEqual(ask(rule(kind, a, b)), [[wanted]], (kind, a, b))

    def test_edge_of_n(self):
        for kind in (0, 1):
            self.taken(kind, 0, 0)
            self.taken(kind, 0, 3)
            self.refused(kind, 0, 4)
            self.refused(kind, 0, LARGEST)

    def test_n_may_be_the_same_number_as_a(self):
        for kind in (0, 1):
            for number in range(4):
                self.taken(kind, number, number)

    def test_edge_of_a(self):
        for kind in range(9):
            rest = [] if kind in (2, 3) else [0]
            self.taken(kind, 4, *rest)
            self.refused(kind, 5, *rest)
            self.refused(kind, LARGEST, *rest)

    def test_edge_of_b(self):
        for kind in range(4, 9):
            self.taken(kind, 0, 4)
            self.refused(kind, 0, 5)
            self.refused(kind, 0, LARGEST)

    def test_a_and_b_the_same(self):
        for kind in range(4, 9):
            for step in range(5):
                self.refused(kind, step, step)

    def test_edge_of_kind(self):
        self.taken(8, 0, 1)
        for kind in (9, 10, LARGEST):
            self.refused(kind)
            self.refused(kind, 0)
            self.refused(kind, 0, 1)

    def test_too_few_numbers(self):
        self.refused()
        for kind in range(9):
            self.refused(kind)
            if kind not in (2, 3):
                self.refused(kind, 0)

    def test_too_many_numbers(self):
        for kind in range(9):
            right = [kind, 0] if kind in (2, 3) else [kind, 0, 1]
            self.taken(*right)
            for more in range(1, 21 - len(right)):
                self.refused(*right, *([1] * more))
                self.refused(*right, *([LARGEST] * more))

    def test_many_large_numbers(self):
        self.refused(*([LARGEST] * 20))
        self.refused(LARGEST)


class RuleNumbers(unittest.TestCase):
    FOUR = (rule(2, 0), rule(0, 1, 2), rule(7, 0, 2), rule(3, 1))

    def test_numbered_from_0(self):
        self.assertEqual(ask(*self.FOUR), [[0], [1], [2], [3]])

    def test_the_same_rule_may_be_told_again(self):
        self.assertEqual(ask(*([rule(6, 1, 2)] * 4)), [[0], [1], [2], [3]])

    def test_a_fifth_rule(self):
        self.assertEqual(last(*self.FOUR, rule(2, 0)), [-7])
        self.assertEqual(last(*self.FOUR, rule(8, 4, 0)), [-7])

    def test_a_fifth_rule_of_a_wrong_form(self):
        for wrong in ([], [9, 0, 1], [4, 1, 1], [0, 1, 4], [2, 0, 0], [LARGEST] * 20):
            self.assertEqual(last(*self.FOUR, rule(*wrong)), [-1], wrong)

    def test_all_is_as_it_was_behind_a_refusal(self):
        looks = (judge(0, 1, 1), judge(0, 2), shortest())
        before = ask(*self.FOUR, *looks)[4:]
        for wrong in (rule(1, 0, 0), rule(4, 1, 1), rule(), drop(4), judge(5)):
            self.assertEqual(ask(*self.FOUR, wrong, *looks)[5:], before, wrong)

    def test_a_refused_rule_takes_no_number(self):
        self.assertEqual(ask(rule(2, 0), rule(4, 0, 0), rule(3, 0)), [[0], [-1], [1]])
        self.assertEqual(ask(rule(4, 0, 0), judge(), shortest()), [[-1], [1], [0]])

    def test_room_again_behind_a_drop(self):
        self.assertEqual(ask(*self.FOUR, rule(2, 0), drop(0), rule(2, 0), rule(2, 0))[4:], [[-7], [3], [3], [-7]])


class Begins(unittest.TestCase):
    def test_on_a_new_house(self):
        self.assertEqual(ask(begins(), judge(), shortest()), [[0], [1], [0]])

    def test_behind_rules(self):
        answered = ask(rule(2, 3), rule(3, 3), shortest(), begins(), judge(), shortest(), drop(0), rule(2, 1), shortest())
        self.assertEqual(answered, [[0], [1], [1, 3], [0], [1], [0], [-2], [0], [1, 1]])

    def test_behind_four_rules_there_is_room_again(self):
        four = [rule(1, 0, 0)] * 4
        self.assertEqual(ask(*four, begins(), *four, rule(1, 0, 0))[4:], [[0], [0], [1], [2], [3], [-7]])

    def test_twice(self):
        self.assertEqual(ask(begins(), begins()), [[0], [0]])


class Drop(unittest.TestCase):
    # Of the row 0 1 these say kept, broken, idle, broken: so each of their places can be told apart.
    FOUR = (rule(2, 0), rule(2, 1), rule(4, 3, 2), rule(3, 2))

    def after(self, *calls):
        return ask(*self.FOUR, *calls, judge(0, 1))[4:]

    def test_nothing_dropped(self):
        self.assertEqual(self.after(), [[0, 1, 0, 2, 0]])

    def test_the_first(self):
        self.assertEqual(self.after(drop(0)), [[3], [0, 0, 2, 0]])

    def test_a_middle_one(self):
        self.assertEqual(self.after(drop(1)), [[3], [0, 1, 2, 0]])
        self.assertEqual(self.after(drop(2)), [[3], [0, 1, 0, 0]])

    def test_the_last(self):
        self.assertEqual(self.after(drop(3)), [[3], [0, 1, 0, 2]])

    def test_those_behind_move_up(self):
        self.assertEqual(self.after(drop(1), drop(2)), [[3], [2], [1, 1, 2]])
        self.assertEqual(self.after(drop(0), drop(0), drop(0)), [[3], [2], [1], [0, 0]])

    def test_all(self):
        dropped = [drop(0)] * 4
        self.assertEqual(self.after(*dropped, drop(0)), [[3], [2], [1], [0], [-2], [1]])

    def test_a_new_rule_comes_behind_the_others(self):
        self.assertEqual(self.after(drop(0), rule(1, 0, 0)), [[3], [3], [0, 0, 2, 0, 0]])
        self.assertEqual(self.after(drop(0), rule(2, 0)), [[3], [3], [0, 0, 2, 0, 1]])

    def test_no_such_rule(self):
        self.assertEqual(ask(drop(0)), [[-2]])
        self.assertEqual(ask(drop(LARGEST)), [[-2]])
        for which in (4, 5, LARGEST):
            self.assertEqual(self.after(drop(which)), [[-2], [0, 1, 0, 2, 0]])
        self.assertEqual(ask(rule(2, 0), drop(1), drop(0), drop(0)), [[0], [-2], [0], [-2]])


if __name__ == "__main__":
    unittest.main()
