import unittest

from caserules.house import answers
from tests.plain import LARGEST, begins, drop, judge, rule, shortest


class Interface(unittest.TestCase):
    MIXED = [
        *rule(2, 3), *rule(4, 3, 1), *rule(4, 4, 4), *judge(3, 1), *judge(3), *judge(), *judge(7), *shortest(),
        *drop(0), *drop(LARGEST), *shortest(), *begins(), *rule(), *judge(), *rule(2, 0), *rule(3, 1), *shortest(),
    ]
    ANSWERS = [
        1, 0, 1, 1, 1, -1, 3, 1, 1, 1, 3, 0, 1, 0, 3, 0, 0, 2, 1, -1, 3, 2, 3, 1,
        1, 1, 1, -2, 1, 0, 1, 0, 1, -1, 1, 1, 1, 0, 1, 1, 3, 2, 0, 1,
    ]

    def test_how_calls_and_answers_are_told(self):
        self.assertEqual(answers([0]), [1, 0])
        self.assertEqual(answers([4]), [1, 0])
        self.assertEqual(answers([3, 0]), [1, 1])
        self.assertEqual(answers([1, 0]), [1, -1])
        self.assertEqual(answers([2, 0]), [1, -2])
        self.assertEqual(answers([1, 2, 2, 4, 3, 1, 4, 4, 2, 0]), [1, 0, 2, 1, 1, 2, 1, 4, 1, 0])

    def test_calls_one_behind_another(self):
        self.assertEqual(answers(self.MIXED), self.ANSWERS)

    def test_refused_rows_are_passed_whole(self):
        # The numbers within a refused row look like calls; none of them may be taken for one.
        self.assertEqual(answers([1, 6, 0, 4, 2, 0, 3, 0, 4]), [1, -1, 1, 0])
        self.assertEqual(answers([3, 9, 0, 4, 4, 4, 4, 4, 4, 4, 4, 0]), [1, -1, 1, 0])
        self.assertEqual(answers([3, 20] + [LARGEST] * 20 + [0]), [1, -1, 1, 0])

    def test_sixty_calls(self):
        longest = rule(*([LARGEST] * 20)) * 60
        self.assertEqual(len(longest), 1320)
        self.assertEqual(answers(longest), [1, -1] * 60)
        self.assertEqual(answers(judge(0) * 60), [1, 1] * 60)

    def test_the_list_handed_in_stays_as_it_was(self):
        calls = list(self.MIXED)
        told = answers(calls)
        self.assertEqual(calls, self.MIXED)
        self.assertIsNot(told, calls)

    def test_the_list_handed_in_is_never_written(self):
        class Guarded(list):
            def refuse(self, *ignored):
                raise AssertionError("the list was written")

            append = extend = insert = pop = remove = clear = sort = reverse = refuse
            __setitem__ = __delitem__ = __iadd__ = __imul__ = refuse

        self.assertEqual(answers(Guarded(self.MIXED)), self.ANSWERS)

    def test_two_times_have_nothing_to_do_with_one_another(self):
        self.assertEqual(answers(self.MIXED), self.ANSWERS)
        self.assertEqual(answers(judge() + shortest() + drop(0)), [1, 1, 1, 0, 1, -2])
        self.assertEqual(answers(self.MIXED), self.ANSWERS)

    def test_what_is_given_back_is_new_each_time(self):
        told = answers(self.MIXED)
        told.clear()
        self.assertEqual(answers(self.MIXED), self.ANSWERS)

    def test_whole_numbers_in_a_list(self):
        told = answers(self.MIXED)
        self.assertIs(type(told), list)
        for number in told:
            self.assertIs(type(number), int)

    def test_no_call_that_there_is_not(self):
        self.assertRaises(ValueError, answers, [10])


if __name__ == "__main__":
    unittest.main()
