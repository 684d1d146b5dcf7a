"""Promise 5: cf_tests."""

import itertools
import random
import unittest

from fillring.rings import cf_marks, cf_tests
from helper import all_sets, cancels, divisors, grown_pair, numbers_of, places_in, primes_of, product_of


def by_the_words(n, places):
    """Point 5 as it stands: every choice of two or more powers whose primes are all different."""
    powers = [d for d in divisors(n) if len(primes_of(d)) == 1 and cancels(places, d)]
    first = len(places) == product_of(primes_of(power)[0] for power in powers)
    second = True
    for size in range(2, len(powers) + 1):
        for chosen in itertools.combinations(powers, size):
            if len({primes_of(power)[0] for power in chosen}) == size:
                second = second and cancels(places, product_of(chosen))
    return [(1 if first else 0) + (2 if second else 0)]


def all_pairs_but_not_all_three():
    """On 60 places: cancels out by 3, 4, 5 and the product of any two of them, but not by 60."""
    places = []
    for place in range(60):
        corner = place % 3 < 2 and place % 5 < 2
        if corner:
            wanted = (0, 1) if (place % 3 + place % 5) % 2 == 0 else (2, 3)
        else:
            wanted = (0, 2)
        if place % 4 in wanted:
            places.append(place)
    return places


class OrdinarySets(unittest.TestCase):
    def check(self, n, places, answer):
        self.assertEqual(cf_tests(numbers_of(n, places)), [answer])
        self.assertEqual(by_the_words(n, places), [answer])

    def test_both(self):
        self.check(4, [0, 1], 3)
        self.check(4, [1, 3], 3)
        self.check(6, [0, 1, 2], 3)
        self.check(6, [0, 3], 3)
        self.check(8, [0, 1, 4, 5], 3)
        self.check(12, [0, 1, 6, 7], 3)
        self.check(12, range(6), 3)

    def test_the_second_alone(self):
        self.check(3, [0, 1], 2)
        self.check(5, [0, 1], 2)
        self.check(6, [0, 1, 3], 2)
        self.check(4, [0, 1, 2], 2)
        self.check(8, [0, 1, 2, 4], 2)
        # Cancels out by 12, but by no power of one prime.
        self.check(12, [0, 6, 1, 5, 9], 2)

    def test_the_first_alone(self):
        self.check(12, [0, 1, 2, 3, 5, 7], 1)
        self.check(12, [0, 1, 2, 5, 6, 7], 1)
        self.check(24, [0, 1, 4, 5, 6, 11, 12, 13, 16, 17, 18, 23], 1)

    def test_neither(self):
        low = [0, 1, 2, 3, 5, 7]
        self.check(24, low + [12 + (i + 2) % 12 for i in low], 0)
        self.check(36, low + [12 + (i + 2) % 12 for i in low], 0)
        self.check(36, low + [12 + i for i in low] + [24 + (i + 2) % 12 for i in low], 0)

    def test_each_power_gives_its_prime_once(self):
        # Powers of one prime are counted each, and by their prime, not by themselves.
        self.check(8, [0, 1, 2, 3], 3)
        self.check(8, [0, 2, 4, 6], 3)
        self.check(9, [0, 3, 6], 3)
        self.check(16, range(8), 3)
        self.check(27, range(9), 3)
        self.check(36, range(18), 3)

    def test_two_powers_of_one_prime_are_no_pair(self):
        # 2 and 8 cancel out, 16 doesn't; they are powers of one prime.
        self.check(16, [0, 1, 4, 5], 3)
        self.assertEqual(cf_marks(numbers_of(16, [0, 1, 4, 5])), [2, 2, 8])
        self.check(27, [0, 9, 18, 1, 10, 19, 2, 11, 20], 3)

    def test_three_primes(self):
        self.check(30, range(30), 3)
        self.check(60, range(30), 3)
        self.check(60, range(60), 3)
        self.check(42, range(42), 3)
        self.check(42, range(6), 3)
        self.check(60, [i + 20 * j for i in range(10) for j in range(3)], 3)
        self.check(30, [0, 15, 1, 11, 21, 2, 8, 14, 20, 26], 2)

    def test_three_primes_of_which_any_two_pass(self):
        places = all_pairs_but_not_all_three()
        marks = cf_marks(numbers_of(60, places))[1:]
        self.assertEqual([d for d in (2, 3, 4, 5, 12, 15, 20, 60) if d in marks], [3, 4, 5, 12, 15, 20])
        self.check(60, places, 1)


class Edges(unittest.TestCase):
    def test_the_empty_set(self):
        for n in range(1, 65):
            self.assertEqual(cf_tests([0] * n), [-3])

    def test_the_least_ring(self):
        self.assertEqual(cf_tests([1]), [3])

    def test_one_place(self):
        for n in range(1, 65):
            self.assertEqual(cf_tests(numbers_of(n, [n - 1])), [3])

    def test_the_full_set(self):
        for n in range(1, 65):
            self.assertEqual(cf_tests([1] * n), [3])

    def test_all_but_one_place(self):
        for n in range(3, 65):
            self.assertEqual(cf_tests([0] + [1] * (n - 1)), [2])

    def test_the_largest_ring(self):
        self.assertEqual(cf_tests(numbers_of(64, [0, 32])), [3])
        self.assertEqual(cf_tests(numbers_of(64, range(32))), [3])
        self.assertEqual(cf_tests(numbers_of(64, [0, 1, 2])), [2])
        self.assertEqual(cf_tests(numbers_of(64, range(48))), [2])
        self.assertEqual(cf_tests(numbers_of(64, [0, 1, 32, 33])), [3])


class AgainstTheWords(unittest.TestCase):
    def check(self, a):
        if any(a):
            self.assertEqual(cf_tests(a), by_the_words(len(a), places_in(a)), a)

    def test_all_sets_on_small_rings(self):
        for n in list(range(1, 11)) + [12]:
            for a in all_sets(n):
                self.check(a)

    def test_sets_on_all_rings(self):
        source = random.Random(8)
        for n in range(1, 65):
            for turn in range(4):
                self.check([source.randrange(2) for place in range(n)])
                for places in grown_pair(n, source):
                    a = numbers_of(n, places)
                    self.assertEqual(cf_tests(a), [3], a)
                    self.check(a)

    def test_sets_laid_over_a_ring_of_twelve(self):
        # Those that fail the second test are rare: sets above the ones of 12 places.
        source = random.Random(9)
        low = [a for a in all_sets(12) if sum(a) == 6 and cf_tests(a) == [1]]
        self.assertEqual(len(low), 48)
        seen = set()
        for n in (24, 36, 48, 60):
            for turn in range(60):
                a = []
                for part in range(n // 12):
                    a = a + source.choice(low)
                self.check(a)
                seen.add(cf_tests(a)[0])
        self.assertIn(0, seen)

    def test_on_small_rings_a_set_that_fills_passes_both(self):
        for n in (8, 9, 10, 12):
            for size in [1] + divisors(n):
                for rest in itertools.combinations(range(1, n), size - 1):
                    places = (0,) + rest
                    beside = itertools.combinations(range(1, n), n // size - 1)
                    if any(len({(i + j) % n for i in places for j in (0,) + more}) == n for more in beside):
                        self.assertEqual(cf_tests(numbers_of(n, places)), [3], (n, places))


if __name__ == "__main__":
    unittest.main()
