"""Promise 7: cf_good."""

import itertools
import math
import random
import unittest

from fillring.rings import cf_good
from helper import all_sets, fill, places_in, product_of, turned

MOST = 1000000


def same_turned(n, places):
    """Whether a set is itself turned by less than all around."""
    return any(turned(n, places, d) == sorted(places) for d in range(1, n))


def good_by_all_pairs(n):
    """Point 7 as it stands: any two sets that fill the ring, wherever they lie."""
    sets = [places_in(a) for a in all_sets(n)]
    for first in sets:
        for second in sets:
            if len(first) * len(second) == n and fill(n, first, second):
                if not same_turned(n, first) and not same_turned(n, second):
                    return False
    return True


def seconds_of(n, first):
    """All sets with place 0 that fill the ring with the first."""
    copies = [sum(1 << (i + j) % n for i in first) for j in range(n)]
    reached_by = [[(place - i) % n for i in first] for place in range(n)]
    full = (1 << n) - 1
    waiting = [(copies[0], (0,))]
    while waiting:
        reached, row = waiting.pop()
        if reached == full:
            yield row
            continue
        place = (~reached & (reached + 1)).bit_length() - 1
        for j in reached_by[place]:
            if not copies[j] & reached:
                waiting.append((reached | copies[j], row + (j,)))


def least_gap_first(n, places):
    """Of a set turned onto place 0 in various ways, one at least has its least gap right behind place 0."""
    around = places + (n,)
    return all(around[k + 1] - around[k] >= around[1] for k in range(len(places)))


def good_by_search(n):
    """The same with both sets turned onto place 0, which changes nothing, and the smaller one first."""
    for size in range(1, math.isqrt(n) + 1):
        if n % size == 0:
            for rest in itertools.combinations(range(1, n), size - 1):
                first = (0,) + rest
                if least_gap_first(n, first) and not same_turned(n, first):
                    if not all(same_turned(n, second) for second in seconds_of(n, first)):
                        return False
    return True


def primes_dividing(n):
    found = []
    rest = n
    for prime in range(2, 1001):
        if rest % prime == 0:
            found.append(prime)
            while rest % prime == 0:
                rest //= prime
    return found + ([rest] if rest > 1 else [])


def five_factors(n):
    """
    n = p * u * q * v * w, all 2 or more, where p * u and q * v have no prime
    in common; None if n has no such factors. p, u, q, v can be primes, w the rest.
    """
    for p, q in itertools.permutations(primes_dividing(n), 2):
        for u, v in itertools.product(primes_dividing(n), repeat=2):
            product = p * q * u * v
            if n % product == 0 and n > product and math.gcd(p * u, q * v) == 1:
                return p, u, q, v, n // product
    return None


def pair_of_neither(p, u, q, v, w):
    """
    Two sets that fill the ring of p * u * q * v * w places, of which neither
    is itself turned. Every w-th place is a pair (x, y), x on a ring of p * u,
    y on one of q * v. The first set: x below u, y below v. What lies beside
    it may be moved line by line, one way on every w-th place, the other way
    on the places between.
    """
    n = p * u * q * v * w
    place_of = {}
    for k in range(p * u * q * v):
        place_of[k % (p * u), k % (q * v)] = k * w
    first = [place_of[x, y] for x in range(u) for y in range(v)]
    one = [place_of[k * u, (j * v + (k == 0)) % (q * v)] for k in range(p) for j in range(q)]
    other = [place_of[(k * u + (j == 0)) % (p * u), j * v] for k in range(p) for j in range(q)]
    second = one + [(i + part) % n for part in range(1, w) for i in other]
    return first, second


def shape_of(n):
    """How often the primes of n divide it, the most often first."""
    times = []
    for prime in primes_dividing(n):
        times.append(next(k for k in itertools.count(1) if n % prime ** (k + 1)))
    return tuple(sorted(times, reverse=True))


def shapes():
    """Every shape that some n up to MOST has."""
    found = []
    waiting = [()]
    primes = (2, 3, 5, 7, 11, 13, 17)
    while waiting:
        shape = waiting.pop()
        for more in range(1, 20):
            grown = shape + (more,)
            fits = len(grown) <= 7 and (not shape or more <= shape[-1])
            if fits and product_of(p ** k for p, k in zip(primes, grown)) <= MOST:
                found.append(grown)
                waiting.append(grown)
    return sorted(found)


def is_good_shape(shape):
    if len(shape) == 1:
        return True
    if len(shape) == 2:
        return shape[1] == 1 or shape == (2, 2)
    return shape in ((1, 1, 1), (2, 1, 1), (1, 1, 1, 1))


def numbers_of_shape(shape):
    """Numbers up to MOST of this shape, with the primes given out in various ways."""
    found = set()
    rows = ((2, 3, 5, 7, 11, 13, 17), (3, 5, 7, 11, 13, 17, 19), (5, 2, 11, 3, 13, 7, 17), (23, 2, 3, 5, 7, 11, 13))
    for primes in rows:
        for chosen in itertools.permutations(primes[:len(shape)]):
            n = product_of(p ** k for p, k in zip(chosen, shape))
            if n <= MOST:
                found.add(n)
    return sorted(found)


class OrdinaryRings(unittest.TestCase):
    def check(self, answer, *rings):
        for n in rings:
            self.assertEqual(cf_good(n), [answer], n)

    def test_powers_of_one_prime(self):
        for prime in (2, 3, 5, 7, 11, 31, 97, 101, 997, 1009, 999983):
            power = prime
            while power <= MOST:
                self.check(1, power)
                power *= prime

    def test_two_primes(self):
        self.check(1, 6, 12, 24, 48, 96, 18, 54, 162, 10, 20, 50, 250, 14, 98, 36, 100, 196, 225)
        self.check(1, 2 ** 18 * 3, 2 * 3 ** 11, 2 ** 17 * 7, 2 * 499979, 997 * 991, 29 ** 2 * 31 ** 2)
        self.check(0, 72, 108, 144, 200, 216, 288, 324, 392, 432, 500, 675, 1125, 2 ** 16 * 9, 4 * 3 ** 11)

    def test_three_primes(self):
        self.check(1, 30, 42, 60, 70, 84, 90, 105, 126, 132, 150, 315, 2 * 3 * 97 ** 2, 3 * 5 * 241 ** 2)
        self.check(0, 120, 168, 180, 240, 252, 270, 300, 360, 450, 900, 945, 2 * 3 * 43 ** 3, 4 * 3 * 97 ** 2)

    def test_four_primes(self):
        self.check(1, 210, 330, 390, 462, 1155, 5005, 2 * 3 * 5 * 33331)
        self.check(0, 420, 630, 840, 1050, 1260, 1470, 2 * 3 * 5 * 49, 4 * 3 * 5 * 9973)

    def test_five_and_more_primes(self):
        self.check(0, 2310, 2730, 3570, 4620, 6930, 15015, 15015 * 17, 30030, 39270, 60060, 510510, 570570)


class Edges(unittest.TestCase):
    def test_the_least_and_the_largest(self):
        self.assertEqual(cf_good(2), [1])
        self.assertEqual(cf_good(3), [1])
        self.assertEqual(cf_good(MOST), [0])
        self.assertEqual(cf_good(MOST - 1), [0])
        self.assertEqual(cf_good(999998), [1])
        self.assertEqual(cf_good(2 ** 19), [1])

    def test_out_of_range(self):
        for n in (1, 0, -1, -2, -72, -2 ** 31, MOST + 1, 2 ** 20, 2 ** 31 - 1, 2 ** 31):
            self.assertEqual(cf_good(n), [-2], n)

    def test_the_first_rings_that_are_not_good(self):
        found = [n for n in range(2, 290) if cf_good(n) == [0]]
        self.assertEqual(found, [72, 108, 120, 144, 168, 180, 200, 216, 240, 252, 264, 270, 280, 288])


class EveryShape(unittest.TestCase):
    def test_numbers_of_every_shape(self):
        every = shapes()
        self.assertEqual(max(len(shape) for shape in every), 7)
        for shape in every:
            numbers = numbers_of_shape(shape)
            self.assertTrue(numbers, shape)
            for n in numbers:
                self.assertEqual(cf_good(n), [1 if is_good_shape(shape) else 0], (n, shape))

    def test_good_just_where_no_five_factors_are(self):
        source = random.Random(13)
        for n in list(range(2, 3000)) + [source.randrange(2, MOST + 1) for turn in range(1000)]:
            wanted = 1 if five_factors(n) is None else 0
            self.assertEqual(cf_good(n), [wanted], n)
            self.assertEqual(is_good_shape(shape_of(n)), wanted == 1, n)


class AgainstASearch(unittest.TestCase):
    def test_all_pairs_on_the_smallest_rings(self):
        for n in range(2, 9):
            self.assertEqual(cf_good(n), [1 if good_by_all_pairs(n) else 0], n)

    def test_small_rings(self):
        # 36 is the first ring of the shape p^2 q^2.
        for n in range(2, 37):
            self.assertEqual(cf_good(n), [1 if good_by_search(n) else 0], n)


class PairsOfWhichNeitherIsItselfTurned(unittest.TestCase):
    def check(self, n):
        first, second = pair_of_neither(*five_factors(n))
        self.assertEqual(len(first) * len(second), n)
        self.assertEqual(len({(i + j) % n for i in first for j in second}), n, n)
        # What is itself turned by any d is so by one that goes a prime number of times around n.
        for prime in primes_dividing(n):
            for places in (first, second):
                self.assertNotEqual(turned(n, places, n // prime), sorted(places), n)
        self.assertEqual(cf_good(n), [0], n)

    def test_the_pair_of_72_by_the_definition(self):
        first, second = pair_of_neither(*five_factors(72))
        self.assertTrue(fill(72, first, second))
        self.assertFalse(same_turned(72, first))
        self.assertFalse(same_turned(72, second))

    def test_on_every_small_ring_that_is_not_good(self):
        for n in range(2, 1000):
            if cf_good(n) == [0]:
                self.check(n)

    def test_for_every_shape_that_is_not_good(self):
        for shape in shapes():
            n = numbers_of_shape(shape)[0]
            if not is_good_shape(shape) and n <= 20000:
                self.check(n)

    def test_on_large_rings(self):
        for n in (30030, 510510, MOST):
            self.check(n)


if __name__ == "__main__":
    unittest.main()
