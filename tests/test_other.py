"""Promise 2: cf_other."""

import itertools
import random
import unittest

from fillring.rings import cf_other
from helper import all_sets, fill, grown_pair, numbers_of, places_in


def first_of_all_sets(n, first):
    """The search through all sets that have place 0, of whatever size."""
    rows = [places_in(b) for b in all_sets(n) if b[0] == 1]
    found = sorted(row for row in rows if fill(n, first, row))
    return [len(found[0])] + found[0] if found else [-5]


def first_of_right_size(n, first):
    """The same for larger rings: combinations come in the order that is asked for."""
    ahead = [sum(1 << (i + j) % n for i in first) for j in range(n)]
    for rest in itertools.combinations(range(1, n), n // len(first) - 1):
        reached = ahead[0]
        for j in rest:
            if reached & ahead[j]:
                break
            reached |= ahead[j]
        else:
            return [1 + len(rest), 0] + list(rest)
    return [-5]


class OrdinarySets(unittest.TestCase):
    def check(self, n, places, answer):
        self.assertEqual(cf_other(numbers_of(n, places)), answer)

    def test_several_fillings_the_first(self):
        self.check(4, [0, 2], [2, 0, 1])
        self.check(6, [0, 3], [3, 0, 1, 2])
        self.check(6, [0, 2, 4], [2, 0, 1])
        self.check(8, [0, 4], [4, 0, 1, 2, 3])
        self.check(8, [0, 2], [4, 0, 1, 4, 5])
        self.check(12, [0, 1, 6, 7], [3, 0, 2, 4])
        self.check(12, [0, 4, 8], [4, 0, 1, 2, 3])
        self.check(12, [0, 3, 6, 9], [3, 0, 1, 2])
        self.check(18, [0, 2, 4], [6, 0, 1, 6, 7, 12, 13])

    def test_one_filling_alone(self):
        self.check(4, [0, 1], [2, 0, 2])
        self.check(6, [0, 1], [3, 0, 2, 4])
        self.check(6, [0, 1, 2], [2, 0, 3])
        self.check(10, [0, 3], [5, 0, 2, 4, 6, 8])

    def test_the_least_next_place_may_lead_nowhere(self):
        # 0 and 1 share no place with each other, but no filling has both.
        self.check(9, [0, 2, 4], [3, 0, 3, 6])
        self.check(12, [0, 2, 7], [4, 0, 3, 6, 9])

    def test_a_set_without_place_0(self):
        self.check(4, [1, 2], [2, 0, 2])
        self.check(8, [5, 7], [4, 0, 1, 4, 5])
        self.check(6, [5, 0], [3, 0, 2, 4])

    def test_none(self):
        self.check(5, [0, 1], [-5])
        self.check(6, [0, 1, 3], [-5])
        self.check(6, [0, 2], [-5])
        self.check(8, [0, 1, 2, 4], [-5])
        self.check(8, [0, 1, 2], [-5])
        self.check(8, [0, 1, 3, 4, 6], [-5])


class Edges(unittest.TestCase):
    def test_the_least_ring(self):
        self.assertEqual(cf_other([1]), [1, 0])
        self.assertEqual(cf_other([0]), [-5])

    def test_the_empty_set(self):
        for n in range(1, 33):
            self.assertEqual(cf_other([0] * n), [-5])

    def test_the_full_set(self):
        for n in range(1, 33):
            self.assertEqual(cf_other([1] * n), [1, 0])

    def test_one_place(self):
        for n in range(1, 33):
            for place in range(n):
                self.assertEqual(cf_other(numbers_of(n, [place])), [n] + list(range(n)))

    def test_all_but_one_place(self):
        for n in range(3, 33):
            self.assertEqual(cf_other([0] + [1] * (n - 1)), [-5])

    def test_two_places_on_the_largest_ring(self):
        for step in range(1, 32):
            apart = step & -step
            row = [place for place in range(32) if place // apart % 2 == 0]
            for start in (0, 1, 31):
                places = [start, (start + step) % 32]
                self.assertEqual(cf_other(numbers_of(32, places)), [16] + row)

    def test_blocks_and_steps_on_the_largest_ring(self):
        for size in (1, 2, 4, 8, 16, 32):
            steps = list(range(0, 32, size))
            self.assertEqual(cf_other(numbers_of(32, range(size))), [len(steps)] + steps)
            self.assertEqual(cf_other(numbers_of(32, steps)), [size] + list(range(size)))

    def test_none_on_large_rings(self):
        self.assertEqual(cf_other(numbers_of(32, [0, 1, 2, 4])), [-5])
        self.assertEqual(cf_other(numbers_of(32, [0, 1, 2])), [-5])
        self.assertEqual(cf_other(numbers_of(31, [0, 1])), [-5])

    def test_none_where_a_plain_search_takes_very_many_rows(self):
        for n in (22, 26, 28, 30):
            for step in range(1, n):
                places = [0, step]
                around = next(k for k in range(1, n + 1) if k * step % n == 0)
                answer = cf_other(numbers_of(n, places))
                if around % 2 == 1:
                    self.assertEqual(answer, [-5])
                else:
                    self.assertTrue(fill(n, places, answer[1:]))
        self.assertEqual(cf_other(numbers_of(28, [0, 2, 14, 16])), [-5])


class AgainstASearch(unittest.TestCase):
    def test_all_sets_on_small_rings(self):
        for n in range(1, 8):
            for a in all_sets(n):
                self.assertEqual(cf_other(a), first_of_all_sets(n, places_in(a)), a)

    def test_all_sets_with_place_0_whose_size_divides(self):
        for n in range(8, 17):
            for size in range(1, n + 1):
                if n % size == 0:
                    for rest in itertools.combinations(range(1, n), size - 1):
                        first = (0,) + rest
                        self.assertEqual(
                            cf_other(numbers_of(n, first)), first_of_right_size(n, first), (n, first)
                        )

    def test_large_rings(self):
        source = random.Random(2)
        for n, size in ((18, 3), (20, 4), (20, 10), (24, 4), (24, 6), (24, 8), (27, 9), (30, 10), (32, 8), (32, 16)):
            for turn in range(20):
                first = source.sample(range(n), size)
                self.assertEqual(cf_other(numbers_of(n, first)), first_of_right_size(n, first), (n, first))


class PairsThatFill(unittest.TestCase):
    def test_the_answer_fills_and_none_known_is_ahead_of_it(self):
        source = random.Random(3)
        for n in range(1, 33):
            for turn in range(30):
                first, second = grown_pair(n, source)
                shift = source.randrange(n)
                first = [(i + shift) % n for i in first]
                back = source.choice(second)
                known = sorted((j - back) % n for j in second)
                answer = cf_other(numbers_of(n, first))
                row = answer[1:]
                self.assertEqual(answer[0], len(row))
                self.assertEqual(row[0], 0)
                self.assertEqual(row, sorted(row))
                self.assertTrue(fill(n, first, row), (n, first, row))
                self.assertLessEqual(row, known)

    def test_on_some_large_rings_the_first(self):
        source = random.Random(4)
        for n in (18, 20, 24, 27, 28, 30, 32):
            for turn in range(30):
                first, second = grown_pair(n, source)
                if len(second) <= 6:
                    self.assertEqual(cf_other(numbers_of(n, first)), first_of_right_size(n, first))


if __name__ == "__main__":
    unittest.main()
