"""What the tests share: the words of the document, written down as plainly as they stand."""


class FixedList(list):
    """A list that fails when it is changed, even for a while."""

    def refuse(self, *args, **kwargs):
        raise AssertionError("what was handed in is changed")

    append = clear = extend = insert = pop = remove = reverse = sort = refuse
    __setitem__ = __delitem__ = __iadd__ = __imul__ = refuse


def numbers_of(n, places):
    return [1 if place in places else 0 for place in range(n)]


def all_sets(n):
    """All sets of a ring of n places, as lists of n numbers."""
    return [[code >> place & 1 for place in range(n)] for code in range(2 ** n)]


def places_in(numbers):
    return [place for place, number in enumerate(numbers) if number == 1]


def fill(n, first, second):
    """The definition: each place is (i + j) mod n for just one i and one j."""
    return all(
        len([1 for i in first for j in second if (i + j) % n == place]) == 1
        for place in range(n)
    )


def turned(n, places, d):
    """The definition: the places (i + d) mod n."""
    return sorted((i + d) % n for i in places)


def divisors(n):
    return [d for d in range(2, n + 1) if n % d == 0]


def primes_of(d):
    return [p for p in range(2, d + 1) if d % p == 0 and all(p % q for q in range(2, p))]


def product_of(numbers):
    product = 1
    for number in numbers:
        product *= number
    return product


def cancels(places, d):
    """The definition: counts by rest, then one difference after another, prime by prime."""
    c = [len([1 for i in places if i % d == r]) for r in range(d)]
    for p in primes_of(d):
        before = list(c)
        for r in range(d):
            c[r] = before[r] - before[(r - d // p) % d]
    return c == [0] * d


def grown_pair(n, source):
    """A pair that fills: the ring's steps dealt out, prime by prime, to one of two sets."""
    pair = [[0], [0]]
    step = 1
    while step < n:
        prime = next(p for p in range(2, n + 1) if n // step % p == 0)
        which = source.randrange(2)
        pair[which] = [(i + k * step) % n for i in pair[which] for k in range(prime)]
        step *= prime
    return pair
