"""What holds for every call: refusals, kinds, and that nothing is changed or kept."""

import unittest

from fillring.rings import cf_fill, cf_other
from helper import FixedList, all_sets, numbers_of


class Ranges(unittest.TestCase):
    def test_an_empty_list(self):
        self.assertEqual(cf_fill([], []), [-2])
        self.assertEqual(cf_other([]), [-2])

    def test_a_ring_too_large(self):
        for n in (65, 66, 100):
            self.assertEqual(cf_fill([1] * n, [1] + [0] * (n - 1)), [-2])
        for n in (33, 34, 64, 65):
            self.assertEqual(cf_other([1] * n), [-2])

    def test_a_number_out_of_its_range(self):
        for number in (-1, 256, 2 ** 31):
            self.assertEqual(cf_fill([1, number], [1, 0]), [-2])
            self.assertEqual(cf_fill([1, 0], [number, 1]), [-2])
            self.assertEqual(cf_other([1, number]), [-2])

    def test_sets_of_two_rings(self):
        self.assertEqual(cf_fill([1], []), [-2])
        self.assertEqual(cf_fill([], [1]), [-2])
        self.assertEqual(cf_fill([1, 1], [1]), [-2])
        self.assertEqual(cf_fill([1], [1, 1]), [-2])


class Marks(unittest.TestCase):
    def test_neither_0_nor_1(self):
        for number in (2, 3, 128, 254, 255):
            for n in (1, 2, 7, 32):
                for place in range(n):
                    wrong = [1] * n
                    wrong[place] = number
                    self.assertEqual(cf_fill(wrong, [0] * n), [-3])
                    self.assertEqual(cf_fill([0] * n, wrong), [-3])
                    self.assertEqual(cf_fill(wrong, wrong), [-3])
                    self.assertEqual(cf_other(wrong), [-3])

    def test_on_the_largest_ring(self):
        for number in (2, 255):
            wrong = [0] * 63 + [number]
            self.assertEqual(cf_fill(wrong, [1] * 64), [-3])
            self.assertEqual(cf_fill([1] * 64, wrong), [-3])


class WhichRefusalFirst(unittest.TestCase):
    def test_range_before_marks(self):
        self.assertEqual(cf_fill([2] * 65, [2] * 65), [-2])
        self.assertEqual(cf_other([2] * 33), [-2])
        self.assertEqual(cf_other([2, 256]), [-2])
        self.assertEqual(cf_fill([2], [256]), [-2])
        self.assertEqual(cf_fill([256], [2]), [-2])

    def test_marks_before_none_found(self):
        self.assertEqual(cf_other([2]), [-3])
        self.assertEqual(cf_other([0, 0, 255]), [-3])
        self.assertEqual(cf_other([1, 1, 0, 0, 2]), [-3])


class Kinds(unittest.TestCase):
    def check(self, answer):
        self.assertIs(type(answer), list)
        for number in answer:
            self.assertIs(type(number), int)

    def test_lists_of_whole_numbers(self):
        for a in all_sets(4) + [[], [2], [1], [0]]:
            self.check(cf_other(a))
            for b in all_sets(4):
                if len(b) == len(a):
                    self.check(cf_fill(a, b))
        self.check(cf_fill([], []))
        self.check(cf_fill([2], [1]))


class NothingChangedNothingKept(unittest.TestCase):
    def test_what_is_handed_in_stays(self):
        for numbers in ([], [2, 1], [1, 1, 0, 0], [1, 0, 1, 0], [1, 1, 1, 0], [0, 0], [1] * 33, [1] * 65):
            a = FixedList(numbers)
            b = FixedList(numbers)
            cf_fill(a, b)
            cf_fill(a, a)
            cf_other(a)
            self.assertEqual(list(a), numbers)
            self.assertEqual(list(b), numbers)

    def test_the_same_call_again(self):
        sets = all_sets(6)
        before = [(cf_other(a), [cf_fill(a, b) for b in sets]) for a in sets]
        after = [(cf_other(a), [cf_fill(a, b) for b in sets]) for a in reversed(sets)]
        self.assertEqual(before, after[::-1])

    def test_an_answer_belongs_to_the_caller(self):
        calls = (
            lambda: cf_fill([1], [1]),
            lambda: cf_fill([1], [0]),
            lambda: cf_fill([], []),
            lambda: cf_fill([2], [1]),
            lambda: cf_other(numbers_of(6, [0, 1])),
            lambda: cf_other([0]),
            lambda: cf_other([]),
            lambda: cf_other([2]),
        )
        for call in calls:
            answer = call()
            kept = list(answer)
            answer.append(77)
            answer[0] = 88
            self.assertEqual(call(), kept)


if __name__ == "__main__":
    unittest.main()
