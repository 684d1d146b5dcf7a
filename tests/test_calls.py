"""What holds for every call: refusals, kinds, and that nothing is changed or kept."""

import unittest

from fillring.rings import cf_fill, cf_good, cf_line, cf_marks, cf_other, cf_tests, cf_turn
from helper import FixedList, all_sets, numbers_of

# Each function that is handed one set, and its largest ring.
ONE_SET = ((cf_other, 32), (cf_turn, 64), (cf_marks, 64), (cf_tests, 64))


class Ranges(unittest.TestCase):
    def test_an_empty_list(self):
        self.assertEqual(cf_fill([], []), [-2])
        for call, most in ONE_SET:
            self.assertEqual(call([]), [-2], call)

    def test_a_ring_too_large(self):
        for n in (65, 66, 100):
            self.assertEqual(cf_fill([1] * n, [1] + [0] * (n - 1)), [-2])
        for call, most in ONE_SET:
            self.assertNotEqual(call([1] * most), [-2], call)
            for n in (most + 1, most + 2, 2 * most, 2 * most + 1):
                self.assertEqual(call([1] * n), [-2], call)

    def test_a_number_out_of_its_range(self):
        for number in (-1, 256, 2 ** 31):
            self.assertEqual(cf_fill([1, number], [1, 0]), [-2])
            self.assertEqual(cf_fill([1, 0], [number, 1]), [-2])
            for call, most in ONE_SET:
                self.assertEqual(call([1, number]), [-2], call)

    def test_sets_of_two_rings(self):
        self.assertEqual(cf_fill([1], []), [-2])
        self.assertEqual(cf_fill([], [1]), [-2])
        self.assertEqual(cf_fill([1, 1], [1]), [-2])
        self.assertEqual(cf_fill([1], [1, 1]), [-2])


class Marks(unittest.TestCase):
    def test_neither_0_nor_1(self):
        for number in (2, 3, 128, 254, 255):
            for n in (1, 2, 7, 32):
                for place in range(n):
                    wrong = [1] * n
                    wrong[place] = number
                    self.assertEqual(cf_fill(wrong, [0] * n), [-3])
                    self.assertEqual(cf_fill([0] * n, wrong), [-3])
                    self.assertEqual(cf_fill(wrong, wrong), [-3])
                    for call, most in ONE_SET:
                        self.assertEqual(call(wrong), [-3], call)

    def test_on_the_largest_ring(self):
        for number in (2, 255):
            wrong = [0] * 63 + [number]
            self.assertEqual(cf_fill(wrong, [1] * 64), [-3])
            self.assertEqual(cf_fill([1] * 64, wrong), [-3])
            for call, most in ONE_SET:
                self.assertEqual(call([0] * (most - 1) + [number]), [-3], call)
                self.assertEqual(call([number] * most), [-3], call)


class WhichRefusalFirst(unittest.TestCase):
    def test_range_before_marks(self):
        self.assertEqual(cf_fill([2] * 65, [2] * 65), [-2])
        self.assertEqual(cf_fill([2], [256]), [-2])
        self.assertEqual(cf_fill([256], [2]), [-2])
        for call, most in ONE_SET:
            self.assertEqual(call([2] * (most + 1)), [-2], call)
            self.assertEqual(call([2, 256]), [-2], call)
            self.assertEqual(call([2, -1]), [-2], call)

    def test_marks_before_none_found(self):
        self.assertEqual(cf_other([2]), [-3])
        self.assertEqual(cf_other([0, 0, 255]), [-3])
        self.assertEqual(cf_other([1, 1, 0, 0, 2]), [-3])

    def test_range_before_an_empty_set(self):
        self.assertEqual(cf_tests([]), [-2])
        self.assertEqual(cf_tests([0] * 65), [-2])
        self.assertEqual(cf_tests([0] * 64), [-3])


class Kinds(unittest.TestCase):
    def check(self, answer):
        self.assertIs(type(answer), list)
        for number in answer:
            self.assertIs(type(number), int)

    def test_lists_of_whole_numbers(self):
        for a in all_sets(4) + [[], [2], [1], [0]]:
            for call, most in ONE_SET:
                self.check(call(a))
            for b in all_sets(4):
                if len(b) == len(a):
                    self.check(cf_fill(a, b))
        self.check(cf_fill([], []))
        self.check(cf_fill([2], [1]))
        for a in range(-1, 20):
            self.check(cf_line(a))
            self.check(cf_good(a))
        self.check(cf_good(72))


class NothingChangedNothingKept(unittest.TestCase):
    def test_what_is_handed_in_stays(self):
        for numbers in ([], [2, 1], [1, 1, 0, 0], [1, 0, 1, 0], [1, 1, 1, 0], [0, 0], [1] * 33, [1] * 64, [1] * 65):
            a = FixedList(numbers)
            b = FixedList(numbers)
            cf_fill(a, b)
            cf_fill(a, a)
            for call, most in ONE_SET:
                call(a)
            self.assertEqual(list(a), numbers)
            self.assertEqual(list(b), numbers)

    def test_the_same_call_again(self):
        sets = all_sets(6)
        before = [[cf_fill(a, b) for b in sets] for a in sets]
        after = [[cf_fill(a, b) for b in sets] for a in reversed(sets)]
        self.assertEqual(before, after[::-1])
        before = [[call(a) for call, most in ONE_SET] for a in sets]
        after = [[call(a) for call, most in ONE_SET] for a in reversed(sets)]
        self.assertEqual(before, after[::-1])
        numbers = list(range(-3, 300))
        before = [(cf_line(number), cf_good(number)) for number in numbers]
        after = [(cf_line(number), cf_good(number)) for number in reversed(numbers)]
        self.assertEqual(before, after[::-1])

    def check_answer_belongs_to_caller(self, call, *handed_in):
        answer = call(*handed_in)
        kept = list(answer)
        answer.append(77)
        answer[0] = 88
        self.assertEqual(call(*handed_in), kept, call)

    def test_an_answer_belongs_to_the_caller(self):
        for a, b in (([1], [1]), ([1], [0]), ([], []), ([2], [1])):
            self.check_answer_belongs_to_caller(cf_fill, a, b)
        for a in (numbers_of(6, [0, 1]), numbers_of(6, [0, 1, 3]), [0], [1], [], [2]):
            for call, most in ONE_SET:
                self.check_answer_belongs_to_caller(call, a)
        for a in (-1, 1, 11, 2 ** 17 - 1):
            self.check_answer_belongs_to_caller(cf_line, a)
        for n in (-1, 1, 2, 72, 1000000):
            self.check_answer_belongs_to_caller(cf_good, n)


if __name__ == "__main__":
    unittest.main()
