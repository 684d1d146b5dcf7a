"""What the tests share: the words of the document, written down as plainly as they stand."""


class FixedList(list):
    """A list that fails when it is changed, even for a while."""

    def refuse(self, *args, **kwargs):
        raise AssertionError("what was handed in is changed")

    append = clear = extend = insert = pop = remove = reverse = sort = refuse
    __setitem__ = __delitem__ = __iadd__ = __imul__ = refuse


def numbers_of(n, places):
    return [1 if place in places else 0 for place in range(n)]


def all_sets(n):
    """All sets of a ring of n places, as lists of n numbers."""
    return [[code >> place & 1 for place in range(n)] for code in range(2 ** n)]


def places_in(numbers):
    return [place for place, number in enumerate(numbers) if number == 1]


def fill(n, first, second):
    """The definition: each place is (i + j) mod n for just one i and one j."""
    return all(
        len([1 for i in first for j in second if (i + j) % n == place]) == 1
        for place in range(n)
    )
