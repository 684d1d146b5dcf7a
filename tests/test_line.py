"""Promise 6: cf_line."""

import math
import random
import unittest

from fillring.rings import cf_line
from helper import cancels, fill, primes_of, product_of


def numbers_in(a):
    return [k for k in range(a.bit_length()) if a >> k & 1]


def second_of(n, numbers):
    """A set of places that fills the ring of n with these numbers, or None: a search."""
    if len({i % n for i in numbers}) < len(numbers) or n % len(numbers):
        return None
    copies = [sum(1 << (i + j) % n for i in numbers) for j in range(n)]
    full = (1 << n) - 1
    waiting = [(0, ())]
    while waiting:
        reached, row = waiting.pop()
        if reached == full:
            return row
        place = next(k for k in range(n) if not reached >> k & 1)
        for i in numbers:
            j = (place - i) % n
            if not copies[j] & reached:
                waiting.append((reached | copies[j], row + (j,)))
    return None


def by_search(a):
    """Rings of 1, 2, 3, ... places. What fills the line with a span of m fills it anew after at most 2^m places."""
    numbers = numbers_in(a)
    for n in range(1, 2 ** numbers[-1] + 1):
        if second_of(n, numbers) is not None:
            return [n]
    return [-5]


POWERS = [d for d in range(2, 33) if len(primes_of(d)) == 1]


def by_both_tests(a):
    """
    By Coven and Meyerowitz: numbers whose count has at most two different
    primes (so all up to 17) fill some ring just where both tests of point 5
    hold on the line; the powers of one prime by which they cancel out then
    divide each such n, and their least common multiple is one.
    """
    numbers = numbers_in(a)
    powers = [d for d in POWERS if cancels(numbers, d)]
    if product_of(primes_of(power)[0] for power in powers) != len(numbers):
        return [-5]
    for one in powers:
        for other in powers:
            if math.gcd(one, other) == 1 and not cancels(numbers, one * other):
                return [-5]
    return [math.lcm(*powers)]


class OrdinaryNumbers(unittest.TestCase):
    def check(self, numbers, answer):
        self.assertEqual(cf_line(sum(1 << i for i in numbers)), [answer])

    def test_blocks(self):
        for size in range(1, 18):
            self.check(range(size), size)

    def test_two_numbers(self):
        for apart in range(1, 17):
            self.check([0, apart], 2 * (apart & -apart))

    def test_a_ring_less_than_the_numbers_are_apart(self):
        self.check([0, 3], 2)
        self.check([0, 1, 5], 3)
        self.check([0, 4, 8], 3)
        self.check([0, 9, 10, 15], 4)
        self.check([0, 16, 2], 3)

    def test_a_ring_larger_than_the_numbers_are_apart(self):
        self.check([0, 2], 4)
        self.check([0, 3, 6], 9)
        self.check([0, 8], 16)
        self.check([0, 1, 4, 5], 8)
        self.check([0, 2, 8, 10], 16)
        self.check([0, 1, 2, 6, 7, 8], 12)
        self.check([0, 2, 4, 12, 14, 16], 24)

    def test_none(self):
        self.check([0, 1, 3], -5)
        self.check([0, 1, 2, 4], -5)
        self.check([0, 1, 4, 6], -5)
        self.check([0, 2, 3], -5)
        self.check([0, 1, 2, 3, 5], -5)
        self.check([0, 1, 16], -5)
        self.check([0, 1, 2, 3, 4, 5, 6, 7, 16], -5)
        self.check([k for k in range(17) if k != 8], -5)

    def test_as_many_as_the_primes_yet_none(self):
        # The first test holds and the second doesn't.
        self.check([0, 1, 2, 3, 5, 7], -5)


class Edges(unittest.TestCase):
    def test_the_least(self):
        self.assertEqual(cf_line(1), [1])
        self.assertEqual(cf_line(3), [2])

    def test_the_largest(self):
        self.assertEqual(cf_line(2 ** 17 - 1), [17])
        self.assertEqual(cf_line(2 ** 17 - 3), [-5])
        self.assertEqual(cf_line(2 ** 16 + 1), [32])

    def test_out_of_range(self):
        for a in (0, -1, -2, -3, -2 ** 31, 2 ** 17, 2 ** 17 + 1, 2 ** 18 - 1, 2 ** 31 - 1, 2 ** 31, -2 ** 31 - 1):
            self.assertEqual(cf_line(a), [-2], a)

    def test_even(self):
        for a in list(range(2, 200, 2)) + [2 ** 16, 2 ** 17 - 2]:
            self.assertEqual(cf_line(a), [-2], a)


class AgainstASearch(unittest.TestCase):
    def test_small_numbers_on_all_rings(self):
        for a in range(1, 2 ** 7, 2):
            self.assertEqual(cf_line(a), by_search(a), a)

    def test_the_ring_that_is_told_is_filled_and_none_below(self):
        source = random.Random(10)
        tried = list(range(1, 2 ** 10, 2)) + [source.randrange(2 ** 16) * 2 + 1 for turn in range(300)]
        for a in tried:
            answer = cf_line(a)
            numbers = numbers_in(a)
            least = answer[0] if answer != [-5] else 24
            for n in range(1, least):
                self.assertIsNone(second_of(n, numbers), (a, n))
            if answer != [-5]:
                row = second_of(least, numbers)
                self.assertIsNotNone(row, a)
                self.assertTrue(fill(least, numbers, row), a)


class AgainstBothTests(unittest.TestCase):
    def test_all_below_some_bound(self):
        for a in range(1, 2 ** 12, 2):
            self.assertEqual(cf_line(a), by_both_tests(a), a)

    def test_larger_ones(self):
        source = random.Random(11)
        for turn in range(1500):
            a = source.randrange(2 ** 16) * 2 + 1
            self.assertEqual(cf_line(a), by_both_tests(a), a)

    def test_larger_ones_that_fill(self):
        # Sums of blocks and steps fill far more often than what is drawn blindly.
        source = random.Random(12)
        found = set()
        for turn in range(1500):
            numbers = {0}
            for factor in range(source.randrange(1, 4)):
                step = source.randrange(1, 9)
                times = source.choice((2, 2, 3, 5))
                numbers = {i + k * step for i in numbers for k in range(times)}
            a = sum(1 << i for i in numbers)
            if a < 2 ** 17:
                answer = cf_line(a)
                self.assertEqual(answer, by_both_tests(a), a)
                found.add(answer[0])
        self.assertTrue({-5, 4, 8, 9, 12, 16, 18} <= found, found)


if __name__ == "__main__":
    unittest.main()
