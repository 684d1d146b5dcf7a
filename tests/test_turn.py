"""Promise 3: cf_turn."""

import random
import unittest

from fillring.rings import cf_turn
from helper import all_sets, numbers_of, places_in, turned


def least_turn(n, places):
    return next(d for d in range(1, n + 1) if turned(n, places, d) == sorted(places))


class OrdinarySets(unittest.TestCase):
    def check(self, n, places, d):
        self.assertEqual(cf_turn(numbers_of(n, places)), [d])

    def test_the_same_before_all_around(self):
        self.check(4, [0, 2], 2)
        self.check(4, [1, 3], 2)
        self.check(6, [0, 3], 3)
        self.check(6, [1, 3, 5], 2)
        self.check(6, [0, 1, 3, 4], 3)
        self.check(12, [0, 1, 6, 7], 6)
        self.check(12, [0, 1, 4, 5, 8, 9], 4)
        self.check(12, [2, 5, 8, 11], 3)
        self.check(15, [0, 1, 5, 6, 10, 11], 5)

    def test_the_same_only_all_around(self):
        self.check(4, [0, 1], 4)
        self.check(5, [0, 2], 5)
        self.check(6, [0, 2], 6)
        self.check(6, [0, 1, 3], 6)
        self.check(8, [0, 1, 4], 8)
        self.check(12, [0, 3, 6], 12)
        self.check(12, [0, 2, 4, 6, 8], 12)

    def test_reversed_order_is_no_turn(self):
        self.check(7, [0, 1, 3], 7)
        self.check(8, [0, 1, 2, 3], 8)

    def test_the_least_of_several(self):
        self.check(8, [0, 2, 4, 6], 2)
        self.check(12, [0, 4, 8], 4)
        self.check(64, range(0, 64, 2), 2)


class Edges(unittest.TestCase):
    def test_the_least_ring(self):
        self.assertEqual(cf_turn([0]), [1])
        self.assertEqual(cf_turn([1]), [1])

    def test_the_empty_and_the_full_set(self):
        for n in range(1, 65):
            self.assertEqual(cf_turn([0] * n), [1])
            self.assertEqual(cf_turn([1] * n), [1])

    def test_one_place_and_all_but_one(self):
        for n in range(1, 65):
            for place in range(n):
                one = numbers_of(n, [place])
                self.assertEqual(cf_turn(one), [n])
                self.assertEqual(cf_turn([1 - number for number in one]), [n])

    def test_steps_on_every_ring(self):
        for n in range(1, 65):
            for d in range(1, n + 1):
                if n % d == 0:
                    for start in {0, d - 1}:
                        self.assertEqual(cf_turn(numbers_of(n, range(start, n, d))), [d])

    def test_the_largest_ring(self):
        for d in (1, 2, 4, 8, 16, 32, 64):
            half = [place for place in range(64) if place % d < (d + 1) // 2]
            self.assertEqual(cf_turn(numbers_of(64, half)), [d])
        # But for one place it would be the same by 32.
        almost = [place for place in range(64) if place % 32 < 5 and place != 36]
        self.assertEqual(cf_turn(numbers_of(64, almost)), [64])


class AgainstTheDefinition(unittest.TestCase):
    def test_all_sets_on_small_rings(self):
        for n in range(1, 13):
            for a in all_sets(n):
                self.assertEqual(cf_turn(a), [least_turn(n, places_in(a))], a)

    def test_sets_on_all_rings(self):
        source = random.Random(5)
        for n in range(1, 65):
            for d in range(1, n + 1):
                if n % d == 0:
                    part = [source.randrange(2) for place in range(d)]
                    a = part * (n // d)
                    self.assertEqual(cf_turn(a), [least_turn(n, places_in(a))], a)
                    a[source.randrange(n)] ^= 1
                    self.assertEqual(cf_turn(a), [least_turn(n, places_in(a))], a)


if __name__ == "__main__":
    unittest.main()
