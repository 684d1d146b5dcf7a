"""Promise 1: cf_fill."""

import random
import unittest

from fillring.rings import cf_fill
from helper import all_sets, fill, numbers_of, places_in


class OrdinaryPairs(unittest.TestCase):
    def check(self, n, first, second, answer):
        self.assertEqual(cf_fill(numbers_of(n, first), numbers_of(n, second)), [answer])
        self.assertEqual(cf_fill(numbers_of(n, second), numbers_of(n, first)), [answer])

    def test_pairs_that_fill(self):
        self.check(4, [0, 1], [0, 2], 1)
        self.check(6, [0, 1], [0, 2, 4], 1)
        self.check(6, [0, 3], [0, 1, 2], 1)
        self.check(6, [1, 4], [3, 4, 5], 1)
        self.check(8, [0, 2], [0, 1, 4, 5], 1)
        self.check(9, [0, 4, 8], [0, 3, 6], 1)
        self.check(12, [0, 1, 6, 7], [0, 2, 4], 1)

    def test_a_place_reached_over_the_end(self):
        self.check(5, [4], [0, 1, 2, 3, 4], 1)
        self.check(4, [3, 2], [3, 1], 1)

    def test_as_many_pairs_as_places_yet_one_twice(self):
        self.check(4, [0, 1], [0, 1], 0)
        self.check(4, [0, 2], [0, 2], 0)
        self.check(6, [0, 1], [0, 1, 3], 0)
        self.check(9, [0, 1, 2], [0, 3, 5], 0)
        self.check(12, [0, 3, 8, 11], [0, 2, 4], 0)

    def test_some_place_not_reached(self):
        self.check(4, [0], [0, 1, 2], 0)
        self.check(6, [0, 1], [0, 2], 0)
        self.check(7, [0, 1], [0, 2, 4], 0)

    def test_all_reached_yet_one_twice(self):
        self.check(3, [0, 1], [0, 1], 0)
        self.check(5, [0, 1], [0, 2, 4], 0)
        self.check(3, [0, 1, 2], [0, 1, 2], 0)

    def test_sums_that_differ_but_are_one_place(self):
        self.check(4, [0, 3], [0, 1], 0)
        self.check(6, [0, 3], [0, 1, 5, 4], 0)
        self.check(6, [0, 2], [0, 1, 5], 0)
        self.check(6, [0, 5], [0, 2, 3], 0)


class Edges(unittest.TestCase):
    def test_the_least_ring(self):
        self.assertEqual(cf_fill([1], [1]), [1])
        self.assertEqual(cf_fill([1], [0]), [0])
        self.assertEqual(cf_fill([0], [1]), [0])
        self.assertEqual(cf_fill([0], [0]), [0])

    def test_empty_sets(self):
        for n in (1, 2, 3, 12, 63, 64):
            nothing = [0] * n
            self.assertEqual(cf_fill(nothing, nothing), [0])
            self.assertEqual(cf_fill(nothing, [1] * n), [0])
            self.assertEqual(cf_fill([1] * n, nothing), [0])

    def test_full_sets(self):
        for n in (2, 3, 12, 63, 64):
            self.assertEqual(cf_fill([1] * n, [1] * n), [0])
            for place in range(n):
                self.assertEqual(cf_fill([1] * n, numbers_of(n, [place])), [1])
                self.assertEqual(cf_fill(numbers_of(n, [place]), [1] * n), [1])

    def test_the_largest_ring(self):
        for size in (2, 4, 8, 16, 32):
            block = numbers_of(64, range(size))
            steps = numbers_of(64, range(0, 64, size))
            self.assertEqual(cf_fill(block, steps), [1])
            self.assertEqual(cf_fill(steps, block), [1])
            self.assertEqual(cf_fill(block, block), [0])
            for lost in range(0, 64, size):
                rest = [place for place in range(0, 64, size) if place != lost]
                self.assertEqual(cf_fill(block, numbers_of(64, rest)), [0])
                self.assertEqual(cf_fill(block, numbers_of(64, rest + [(lost + 1) % 64])), [0])
                self.assertEqual(cf_fill(block, numbers_of(64, rest + [lost, (lost + 1) % 64])), [0])

    def test_three_bits_by_three_bits(self):
        first = [i for i in range(64) if i & 0b101010 == 0]
        second = [i for i in range(64) if i & 0b010101 == 0]
        self.assertEqual(cf_fill(numbers_of(64, first), numbers_of(64, second)), [1])
        turned = [(i + 37) % 64 for i in second]
        self.assertEqual(cf_fill(numbers_of(64, first), numbers_of(64, turned)), [1])


class AgainstTheDefinition(unittest.TestCase):
    def test_all_pairs_on_small_rings(self):
        for n in range(1, 7):
            for a in all_sets(n):
                for b in all_sets(n):
                    wanted = 1 if fill(n, places_in(a), places_in(b)) else 0
                    self.assertEqual(cf_fill(a, b), [wanted], (a, b))

    def test_pairs_on_all_rings(self):
        source = random.Random(1)
        for n in range(1, 65):
            sizes = [size for size in range(1, n + 1) if n % size == 0]
            for size in sizes:
                first = source.sample(range(n), size)
                second = source.sample(range(n), n // size)
                wanted = 1 if fill(n, first, second) else 0
                self.assertEqual(cf_fill(numbers_of(n, first), numbers_of(n, second)), [wanted])
                block = [(i + n - 1) % n for i in range(size)]
                steps = range(0, n, size)
                self.assertEqual(cf_fill(numbers_of(n, block), numbers_of(n, steps)), [1])


if __name__ == "__main__":
    unittest.main()
