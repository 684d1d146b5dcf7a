"""Promise 4: cf_marks."""

import random
import unittest

from fillring.rings import cf_marks
from helper import all_sets, cancels, divisors, grown_pair, numbers_of, places_in


def by_the_words(n, places):
    found = [d for d in divisors(n) if cancels(places, d)]
    return [len(found)] + found


def divided(row, by):
    """Quotient and rest of two polynomials, numbers from the lowest power on; by ends in 1."""
    rest = list(row)
    found = []
    while len(rest) >= len(by):
        factor = rest[-1]
        found.append(factor)
        for k in range(len(by)):
            rest[len(rest) - len(by) + k] -= factor * by[k]
        rest.pop()
    return found[::-1], rest


def circle_polynomials(most):
    """For each d the polynomial whose roots are the turns by k d-ths, k without a divisor in common with d."""
    found = {}
    for d in range(1, most + 1):
        row = [-1] + [0] * (d - 1) + [1]
        for e in range(1, d):
            if d % e == 0:
                row = divided(row, found[e])[0]
        found[d] = row
    return found


CIRCLE = circle_polynomials(64)


def by_turns(a):
    """What the words in brackets say: the turns by i d-ths, put together, come to nothing."""
    found = [d for d in divisors(len(a)) if not any(divided(a, CIRCLE[d])[1])]
    return [len(found)] + found


class OrdinarySets(unittest.TestCase):
    def check(self, n, places, answer):
        self.assertEqual(cf_marks(numbers_of(n, places)), answer)

    def test_by_none(self):
        self.check(4, [0, 1, 2], [0])
        self.check(5, [0, 1], [0])
        self.check(6, [0, 2], [0])
        self.check(7, [1, 2, 4], [0])

    def test_by_one(self):
        self.check(4, [0, 1], [1, 2])
        self.check(4, [0, 2], [1, 4])
        self.check(9, [0, 1, 2], [1, 3])
        self.check(9, [0, 3, 6], [1, 9])
        self.check(8, [0, 4], [1, 8])

    def test_by_several(self):
        self.check(6, [0, 3], [2, 2, 6])
        self.check(6, [0, 2, 4], [2, 3, 6])
        self.check(6, [0, 1], [1, 2])
        self.check(8, [0, 1, 4, 5], [2, 2, 8])
        self.check(8, [0, 2, 4, 6], [2, 4, 8])
        self.check(12, [0, 1, 6, 7], [3, 2, 4, 12])
        self.check(12, [0, 3, 6, 9], [4, 2, 4, 6, 12])

    def test_by_a_d_of_two_primes_alone(self):
        self.check(12, [0, 6, 1, 5, 9], [1, 12])
        self.check(18, [0, 9, 1, 7, 13], [1, 18])
        self.check(20, [0, 10, 1, 5, 9, 13, 17], [1, 20])

    def test_by_a_d_of_three_primes_alone(self):
        self.check(30, [0, 15, 1, 11, 21, 2, 8, 14, 20, 26], [1, 30])

    def test_two_primes_of_which_one_alone_is_not_enough(self):
        # By each prime of 6 a difference is taken; after one alone numbers are left over.
        self.check(6, [0, 1, 3], [0])
        self.check(6, [0, 1, 2], [1, 3])
        self.check(6, [0, 1, 3, 4], [2, 2, 6])

    def test_turned_sets_cancel_out_alike(self):
        for shift in range(12):
            self.check(12, [(i + shift) % 12 for i in (0, 1, 6, 7)], [3, 2, 4, 12])


class Edges(unittest.TestCase):
    def test_the_least_ring(self):
        self.assertEqual(cf_marks([0]), [0])
        self.assertEqual(cf_marks([1]), [0])

    def test_two_places(self):
        self.assertEqual(cf_marks([0, 0]), [1, 2])
        self.assertEqual(cf_marks([1, 0]), [0])
        self.assertEqual(cf_marks([0, 1]), [0])
        self.assertEqual(cf_marks([1, 1]), [1, 2])

    def test_the_empty_and_the_full_set(self):
        for n in range(1, 65):
            every = divisors(n)
            self.assertEqual(cf_marks([0] * n), [len(every)] + every)
            self.assertEqual(cf_marks([1] * n), [len(every)] + every)

    def test_one_place(self):
        for n in range(1, 65):
            for place in range(n):
                self.assertEqual(cf_marks(numbers_of(n, [place])), [0])

    def test_all_but_one_place(self):
        for n in range(2, 65):
            self.assertEqual(cf_marks([1] * (n - 1) + [0]), [0])

    def test_the_largest_ring(self):
        self.assertEqual(cf_marks([0] * 64), [6, 2, 4, 8, 16, 32, 64])
        self.assertEqual(cf_marks([1] * 64), [6, 2, 4, 8, 16, 32, 64])
        for step in (1, 2, 4, 8, 16, 32):
            self.assertEqual(cf_marks(numbers_of(64, [0, step])), [1, 2 * step])
        self.assertEqual(cf_marks(numbers_of(64, [0, 1, 2, 3])), [2, 2, 4])
        self.assertEqual(cf_marks(numbers_of(64, [0, 1, 32, 33])), [2, 2, 64])
        self.assertEqual(cf_marks(numbers_of(64, [0, 1, 2])), [0])

    def test_blocks_and_steps_on_every_ring(self):
        for n in range(1, 65):
            for size in range(1, n + 1):
                if n % size == 0:
                    inside = divisors(size)
                    self.assertEqual(cf_marks(numbers_of(n, range(size))), [len(inside)] + inside)
                    outside = [d for d in divisors(n) if size % d != 0]
                    self.assertEqual(cf_marks(numbers_of(n, range(0, n, size))), [len(outside)] + outside)


class AgainstTheDefinition(unittest.TestCase):
    def check(self, a):
        wanted = by_the_words(len(a), places_in(a))
        self.assertEqual(cf_marks(a), wanted, a)
        self.assertEqual(by_turns(a), wanted, a)

    def test_all_sets_on_small_rings(self):
        for n in range(1, 11):
            for a in all_sets(n):
                self.check(a)

    def test_all_sets_of_twelve_places(self):
        for a in all_sets(12):
            self.check(a)

    def test_sets_on_all_rings(self):
        source = random.Random(6)
        for n in range(1, 65):
            for turn in range(4):
                self.check([source.randrange(2) for place in range(n)])
                first, second = grown_pair(n, source)
                self.check(numbers_of(n, first))
                self.check(numbers_of(n, second))

    def test_steps_put_together(self):
        # Sets laid of several steps cancel out by d of several primes, and by few others.
        source = random.Random(7)
        for n in (12, 18, 20, 24, 30, 36, 42, 48, 60, 64):
            primes = [p for p in (2, 3, 5, 7) if n % p == 0]
            for turn in range(40):
                taken = set()
                for prime in primes * 2:
                    start = source.randrange(n)
                    steps = {(start + k * n // prime) % n for k in range(prime)}
                    if not steps & taken:
                        taken |= steps
                self.check(numbers_of(n, taken))


if __name__ == "__main__":
    unittest.main()
