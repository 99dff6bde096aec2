import unittest

from tests.plain import LARGEST, ask, every_rule, judge, last, plain_verdict, rows_up_to, rule

BROKEN, KEPT, IDLE = 0, 1, 2


class KindByKind(unittest.TestCase):
    def says(self, numbers, wanted):
        for row, verdict in wanted.items():
            whole = 0 if verdict == BROKEN else 1
            self.assertEqual(last(rule(*numbers), judge(*row)), [whole, verdict], (numbers, row))

    def test_0_at_least(self):
        self.says((0, 1, 0), {(): KEPT, (1,): KEPT, (2,): KEPT})
        self.says((0, 1, 1), {(): BROKEN, (1,): KEPT, (0,): BROKEN, (0, 1, 1, 1, 1): KEPT})
        self.says((0, 1, 3), {(1, 1): BROKEN, (1, 0, 1, 2, 1): KEPT, (1, 1, 1, 1): KEPT, (3, 3, 3): BROKEN})

    def test_1_at_most(self):
        self.says((1, 1, 0), {(): KEPT, (0, 2): KEPT, (0, 1): BROKEN})
        self.says((1, 1, 3), {(): KEPT, (1, 1, 1): KEPT, (1, 1, 1, 1): BROKEN, (1,) * 8: BROKEN, (3,) * 8: KEPT})

    def test_2_first(self):
        self.says((2, 1), {(): BROKEN, (1,): KEPT, (1, 0): KEPT, (0, 1): BROKEN, (1, 1): KEPT, (0,): BROKEN})

    def test_3_last(self):
        self.says((3, 1), {(): BROKEN, (1,): KEPT, (1, 0): BROKEN, (0, 1): KEPT, (1, 0, 1): KEPT, (0,): BROKEN})

    def test_4_later(self):
        self.says((4, 0, 1), {
            (): IDLE, (1,): IDLE, (2, 1, 3): IDLE, (0,): BROKEN, (0, 1): KEPT, (0, 2, 2, 1): KEPT, (1, 0): BROKEN,
            (0, 0, 1): KEPT, (0, 1, 0): BROKEN, (0, 1, 0, 1): KEPT, (0, 1, 2): KEPT, (0, 2): BROKEN, (1, 0, 1): KEPT,
        })

    def test_5_ahead(self):
        self.says((5, 0, 1), {
            (): IDLE, (0,): IDLE, (2, 0, 0): IDLE, (1,): BROKEN, (0, 1): KEPT, (0, 2, 2, 1): KEPT, (1, 0): BROKEN,
            (0, 1, 1): KEPT, (1, 0, 1): BROKEN, (2, 1): BROKEN, (0, 1, 0): KEPT,
        })

    def test_6_right_behind(self):
        self.says((6, 0, 1), {
            (): IDLE, (1,): IDLE, (2, 1): IDLE, (0,): BROKEN, (0, 1): KEPT, (0, 2, 1): BROKEN, (0, 0, 1): BROKEN,
            (0, 1, 0, 1): KEPT, (0, 1, 0): BROKEN, (0, 1, 1, 2): KEPT, (0, 2, 0, 1): BROKEN, (1, 0): BROKEN,
        })

    def test_7_not_both(self):
        self.says((7, 0, 1), {
            (): KEPT, (0,): KEPT, (1,): KEPT, (2,): KEPT, (0, 1): BROKEN, (1, 0): BROKEN, (0, 0, 2): KEPT,
            (1, 1, 2): KEPT, (0, 2, 1, 2): BROKEN, (1, 2, 0): BROKEN,
        })

    def test_8_between(self):
        self.says((8, 0, 1), {
            (): IDLE, (0,): IDLE, (1, 0, 1): IDLE, (0, 0): BROKEN, (0, 1, 0): KEPT, (0, 2, 0): BROKEN,
            (0, 2, 1, 1, 0): KEPT, (0, 1, 0, 0): BROKEN, (0, 1, 0, 1, 0): KEPT, (0, 0, 1): BROKEN,
            (1, 0, 0, 1): BROKEN, (1, 1): IDLE, (0, 1, 0, 1): KEPT, (0, 1, 0, 1, 2, 0, 2, 0): BROKEN,
        })


class AgainstPlainWords(unittest.TestCase):
    def test_every_rule_on_every_short_row(self):
        rules = every_rule()
        rows = rows_up_to(4)
        for at in range(0, len(rules), 4):
            told = rules[at:at + 4]
            for row in rows:
                verdicts = [plain_verdict(numbers, row) for numbers in told]
                self.says(told, row, verdicts)

    def test_longer_rows_of_three_steps(self):
        told = [(kind, 0, 1) for kind in (4, 5, 6, 8)]
        for row in rows_up_to(7, 3):
            self.says(told, row, [plain_verdict(numbers, row) for numbers in told])

    def says(self, told, row, verdicts):
        answered = last(*[rule(*numbers) for numbers in told], judge(*row))
        self.assertEqual(answered, [0 if BROKEN in verdicts else 1] + verdicts, (told, row))


class Judge(unittest.TestCase):
    def test_no_rules(self):
        self.assertEqual(ask(judge(), judge(4, 0, 4)), [[1], [1]])

    def test_all_kept(self):
        told = (rule(2, 0), rule(4, 0, 1), rule(6, 3, 2), rule(1, 2, 0))
        self.assertEqual(last(*told, judge(0, 1)), [1, 1, 1, 2, 1])

    def test_one_broken_at_each_place(self):
        for place in range(4):
            told = [rule(1, 0, 0)] * 4
            told[place] = rule(2, 1)
            wanted = [1] * 4
            wanted[place] = 0
            self.assertEqual(last(*told, judge(2)), [0] + wanted)

    def test_edge_of_length(self):
        self.assertEqual(ask(judge(*([0] * 8)), judge(*([0] * 9)), judge(*([0] * 20))), [[1], [-1], [-1]])
        self.assertEqual(last(rule(1, 0, 0), judge(*([0] * 8))), [0, 0])
        self.assertEqual(last(rule(1, 0, 0), judge(*([0] * 9))), [-1])

    def test_the_eighth_step_counts(self):
        self.assertEqual(last(rule(3, 2), judge(0, 0, 0, 0, 0, 0, 0, 2)), [1, 1])

    def test_edge_of_a_step(self):
        self.assertEqual(ask(judge(4), judge(5), judge(LARGEST)), [[1], [-1], [-1]])
        for place in range(8):
            row = [0] * 8
            row[place] = 5
            self.assertEqual(ask(judge(*row)), [[-1]])
            row[place] = 4
            self.assertEqual(ask(judge(*row)), [[1]])

    def test_too_long_and_no_step(self):
        self.assertEqual(ask(judge(*([LARGEST] * 20))), [[-1]])

    def test_judging_changes_nothing(self):
        asked = (rule(4, 0, 1), judge(0), judge(), judge(0, 1), judge(0), judge(9), judge())
        self.assertEqual(ask(*asked), [[0], [0, 0], [1, 2], [1, 1], [0, 0], [-1], [1, 2]])


if __name__ == "__main__":
    unittest.main()
