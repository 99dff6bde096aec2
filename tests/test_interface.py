import unittest

from caserules.house import answers
from tests.plain import (
    LARGEST, begins, breaks, clashes, count, drop, judge, nearest, rule, shortest, spare,
)


class Interface(unittest.TestCase):
    MIXED = [
        *rule(2, 3), *rule(4, 3, 1), *rule(4, 4, 4), *judge(3, 1), *judge(3), *judge(), *judge(7), *shortest(),
        *drop(0), *drop(LARGEST), *shortest(), *begins(), *rule(), *judge(), *rule(2, 0), *rule(3, 1), *shortest(),
    ]
    ANSWERS = [
        1, 0, 1, 1, 1, -1, 3, 1, 1, 1, 3, 0, 1, 0, 3, 0, 0, 2, 1, -1, 3, 2, 3, 1,
        1, 1, 1, -2, 1, 0, 1, 0, 1, -1, 1, 1, 1, 0, 1, 1, 3, 2, 0, 1,
    ]
    ASKED = [
        *rule(2, 0), *rule(3, 1), *count(3), *count(11), *clashes(), *breaks(1), *breaks(2), *nearest(4), *nearest(5),
        *rule(2, 1), *rule(3, 1), *clashes(), *spare(), *breaks(0), *breaks(1), *nearest(4),
        *nearest(*([LARGEST] * 20)), *judge(1),
    ]
    ASKED_ANSWERS = [
        1, 0, 1, 1, 1, 5, 1, -1, 1, 0, 2, 1, 0, 1, -2, 4, 2, 0, 4, 1, 1, -1,
        1, 2, 1, 3, 4, 1, 2, 0, 2, 3, 2, 1, 3, 2, 1, 1, 1, -6, 1, -6, 1, -1, 5, 0, 0, 1, 1, 1,
    ]
    HANDED = ((MIXED, ANSWERS), (ASKED, ASKED_ANSWERS))

    def test_how_calls_and_answers_are_told(self):
        self.assertEqual(answers([0]), [1, 0])
        self.assertEqual(answers([4]), [1, 0])
        self.assertEqual(answers([3, 0]), [1, 1])
        self.assertEqual(answers([1, 0]), [1, -1])
        self.assertEqual(answers([2, 0]), [1, -2])
        self.assertEqual(answers([1, 2, 2, 4, 3, 1, 4, 4, 2, 0]), [1, 0, 2, 1, 1, 2, 1, 4, 1, 0])
        self.assertEqual(answers([5, 0]), [1, 1])
        self.assertEqual(answers([6]), [1, 0])
        self.assertEqual(answers([7]), [1, 0])
        self.assertEqual(answers([8, 0]), [1, -2])
        self.assertEqual(answers([9, 0]), [1, 0])
        self.assertEqual(answers([9, 2, 3, 1, 5, 1]), [3, 0, 3, 1, 1, 5])
        self.assertEqual(answers([1, 2, 2, 4, 1, 2, 2, 3, 6, 7, 8, 1]), [1, 0, 1, 1, 4, 1, 2, 0, 1, 1, 0, 2, 1, 4])

    def test_calls_one_behind_another(self):
        for handed, wanted in self.HANDED:
            self.assertEqual(answers(handed), wanted)

    def test_refused_rows_are_passed_whole(self):
        # The numbers within a refused row look like calls; none of them may be taken for one.
        self.assertEqual(answers([1, 6, 0, 4, 2, 0, 3, 0, 4]), [1, -1, 1, 0])
        self.assertEqual(answers([3, 9, 0, 4, 4, 4, 4, 4, 4, 4, 4, 0]), [1, -1, 1, 0])
        self.assertEqual(answers([3, 20] + [LARGEST] * 20 + [0]), [1, -1, 1, 0])
        self.assertEqual(answers([9, 9, 0, 4, 4, 4, 4, 4, 4, 4, 4, 0]), [1, -1, 1, 0])
        self.assertEqual(answers([9, 20] + [LARGEST] * 20 + [0]), [1, -1, 1, 0])
        self.assertEqual(answers([5, 11, 8, 4, 0]), [1, -1, 1, -2, 1, 0])

    def test_sixty_calls(self):
        longest = rule(*([LARGEST] * 20)) * 60
        self.assertEqual(len(longest), 1320)
        self.assertEqual(answers(longest), [1, -1] * 60)
        self.assertEqual(answers(judge(0) * 60), [1, 1] * 60)

    def test_the_list_handed_in_stays_as_it_was(self):
        for handed, wanted in self.HANDED:
            calls = list(handed)
            told = answers(calls)
            self.assertEqual(calls, handed)
            self.assertIsNot(told, calls)

    def test_the_list_handed_in_is_never_written(self):
        class Guarded(list):
            def refuse(self, *ignored):
                raise AssertionError("the list was written")

            append = extend = insert = pop = remove = clear = sort = reverse = refuse
            __setitem__ = __delitem__ = __iadd__ = __imul__ = refuse

        for handed, wanted in self.HANDED:
            self.assertEqual(answers(Guarded(handed)), wanted)

    def test_two_times_have_nothing_to_do_with_one_another(self):
        for turn in range(2):
            for handed, wanted in self.HANDED:
                self.assertEqual(answers(handed), wanted)
                self.assertEqual(answers(judge() + shortest() + drop(0)), [1, 1, 1, 0, 1, -2])
                self.assertEqual(answers(clashes() + spare() + count(1) + breaks(0)), [1, 0, 1, 0, 1, 5, 1, -2])
                self.assertEqual(answers(nearest(2)), [2, 0, 2])

    def test_what_is_given_back_is_new_each_time(self):
        for handed, wanted in self.HANDED:
            told = answers(handed)
            told.clear()
            self.assertEqual(answers(handed), wanted)

    def test_whole_numbers_in_a_list(self):
        for handed, wanted in self.HANDED:
            told = answers(handed)
            self.assertIs(type(told), list)
            for number in told:
                self.assertIs(type(number), int)

    def test_no_call_that_there_is_not(self):
        self.assertRaises(ValueError, answers, [10])


if __name__ == "__main__":
    unittest.main()
