"""Sets of places on a ring: which of them fill it, how they turn, and where they cancel out."""

OUT_OF_RANGE = -2
NOT_A_SET = -3
NONE_FOUND = -5
NOTHING_REFUSED = 0

MOST_PLACES = 64
MOST_PLACES_OF_OTHER = 32
GREATEST_NUMBER = 255


def in_range(numbers, most):
    if len(numbers) < 1 or len(numbers) > most:
        return False
    return all([number >= 0 and number <= GREATEST_NUMBER for number in numbers])


def only_marks(numbers):
    return all([number == 0 or number == 1 for number in numbers])


# Every range is looked at ahead of any mark: a wrong range of the second set
# is told before a wrong mark of the first.
def refusal(given_sets, most):
    for numbers in given_sets:
        if len(numbers) != len(given_sets[0]) or not in_range(numbers, most):
            return OUT_OF_RANGE
    for numbers in given_sets:
        if not only_marks(numbers):
            return NOT_A_SET
    return NOTHING_REFUSED


def places_of(numbers):
    return [place for place in range(len(numbers)) if numbers[place] == 1]


def times_reached(n, first_places, second_places):
    reached = [0] * n
    for i in first_places:
        for j in second_places:
            reached[(i + j) % n] += 1
    return reached


def cf_fill(a, b):
    refused = refusal([a, b], MOST_PLACES)
    if refused != NOTHING_REFUSED:
        return [refused]
    reached = times_reached(len(a), places_of(a), places_of(b))
    if all([times == 1 for times in reached]):
        return [1]
    return [0]


# A turned set is kept as one number, bit p for place p: whether two of them
# share a place is then a single step.
def turned_bits(n, marked, shift):
    bits = 0
    for place in marked:
        bits = bits | (1 << ((place + shift) % n))
    return bits


def reached_with(reached, copies, shifts):
    for shift in shifts:
        reached = reached | copies[shift]
    return reached


# Rows grow from the least place on, and the row with the lesser next place is
# taken up first, so the first row that fills is the first of all in order.
# A row is given up as soon as some place lies in none of the copies that may
# still be laid: without that, a ring of 30 places can take half a million rows.
def first_filling_row(copies):
    n = len(copies)
    full = (1 << n) - 1
    waiting = [([0], copies[0])]
    while len(waiting) > 0:
        taken = waiting.pop()
        row = taken[0]
        reached = taken[1]
        if reached == full:
            return row
        fitting = [shift for shift in range(row[-1] + 1, n) if (copies[shift] & reached) == 0]
        if reached_with(reached, copies, fitting) == full:
            for shift in reversed(fitting):
                waiting.append((row + [shift], reached | copies[shift]))
    return []


def cf_other(a):
    refused = refusal([a], MOST_PLACES_OF_OTHER)
    if refused != NOTHING_REFUSED:
        return [refused]
    n = len(a)
    marked = places_of(a)
    # Copies that share no place and fill the ring are n places in all, so
    # other sizes need no search.
    if len(marked) == 0 or n % len(marked) != 0:
        return [NONE_FOUND]
    row = first_filling_row([turned_bits(n, marked, shift) for shift in range(n)])
    if len(row) == 0:
        return [NONE_FOUND]
    return [len(row)] + row


def turned(numbers, d):
    n = len(numbers)
    return [numbers[(place - d) % n] for place in range(n)]


def cf_turn(a):
    refused = refusal([a], MOST_PLACES)
    if refused != NOTHING_REFUSED:
        return [refused]
    d = 1
    # Turned by n a set is itself, so this ends.
    while turned(a, d) != a:
        d += 1
    return [d]


# The different primes from the least on, each as a pair with how often it divides.
def primes_and_times(number):
    pairs = []
    rest = number
    prime = 2
    while prime * prime <= rest:
        times = 0
        while rest % prime == 0:
            rest = rest // prime
            times += 1
        if times > 0:
            pairs.append((prime, times))
        prime += 1
    if rest > 1:
        pairs.append((rest, 1))
    return pairs


def cancels_out(marked, d):
    counts = [0] * d
    for place in marked:
        counts[place % d] += 1
    for pair in primes_and_times(d):
        step = d // pair[0]
        counts = [counts[r] - counts[(r - step) % d] for r in range(d)]
    return all([count == 0 for count in counts])


def parts_that_cancel(numbers):
    n = len(numbers)
    marked = places_of(numbers)
    return [d for d in range(2, n + 1) if n % d == 0 and cancels_out(marked, d)]


def cf_marks(a):
    refused = refusal([a], MOST_PLACES)
    if refused != NOTHING_REFUSED:
        return [refused]
    parts = parts_that_cancel(a)
    return [len(parts)] + parts
