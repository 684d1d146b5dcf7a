"""Sets of places on a ring: which of them fill it, how they turn, and where they cancel out."""

OUT_OF_RANGE = -2
NOT_A_SET = -3
NONE_FOUND = -5
NOTHING_REFUSED = 0

MOST_PLACES = 64
MOST_PLACES_OF_OTHER = 32
GREATEST_NUMBER = 255
GREATEST_LINE = 131071
GREATEST_RING = 1000000

CLASH = -1

# How often each prime divides: p^k q, p^2 q^2, p^2 q r, p q r s. No prime
# divides a number up to GREATEST_RING more than 19 times.
GOOD_SHAPES = ((19, 1), (2, 2), (2, 1, 1), (1, 1, 1, 1))


def in_range(numbers, most):
    if len(numbers) < 1 or len(numbers) > most:
        return False
    return all([number >= 0 and number <= GREATEST_NUMBER for number in numbers])


def only_marks(numbers):
    return all([number == 0 or number == 1 for number in numbers])


# Every range is looked at ahead of any mark: a wrong range of the second set
# is told before a wrong mark of the first.
def refusal(given_sets, most):
    for numbers in given_sets:
        if len(numbers) != len(given_sets[0]) or not in_range(numbers, most):
            return OUT_OF_RANGE
    for numbers in given_sets:
        if not only_marks(numbers):
            return NOT_A_SET
    return NOTHING_REFUSED


def places_of(numbers):
    return [place for place in range(len(numbers)) if numbers[place] == 1]


def times_reached(n, first_places, second_places):
    reached = [0] * n
    for i in first_places:
        for j in second_places:
            reached[(i + j) % n] += 1
    return reached


def cf_fill(a, b):
    refused = refusal([a, b], MOST_PLACES)
    if refused != NOTHING_REFUSED:
        return [refused]
    reached = times_reached(len(a), places_of(a), places_of(b))
    if all([times == 1 for times in reached]):
        return [1]
    return [0]


# A turned set is kept as one number, bit p for place p: whether two of them
# share a place is then a single step.
def turned_bits(n, marked, shift):
    bits = 0
    for place in marked:
        bits = bits | (1 << ((place + shift) % n))
    return bits


def reached_with(reached, copies, shifts):
    for shift in shifts:
        reached = reached | copies[shift]
    return reached


# Rows grow from the least place on, and the row with the lesser next place is
# taken up first, so the first row that fills is the first of all in order.
# A row is given up as soon as some place lies in none of the copies that may
# still be laid: without that, a ring of 30 places can take half a million rows.
def first_filling_row(copies):
    n = len(copies)
    full = (1 << n) - 1
    waiting = [([0], copies[0])]
    while len(waiting) > 0:
        taken = waiting.pop()
        row = taken[0]
        reached = taken[1]
        if reached == full:
            return row
        fitting = [shift for shift in range(row[-1] + 1, n) if (copies[shift] & reached) == 0]
        if reached_with(reached, copies, fitting) == full:
            for shift in reversed(fitting):
                waiting.append((row + [shift], reached | copies[shift]))
    return []


def cf_other(a):
    refused = refusal([a], MOST_PLACES_OF_OTHER)
    if refused != NOTHING_REFUSED:
        return [refused]
    n = len(a)
    marked = places_of(a)
    # Copies that share no place and fill the ring are n places in all, so
    # other sizes need no search.
    if len(marked) == 0 or n % len(marked) != 0:
        return [NONE_FOUND]
    row = first_filling_row([turned_bits(n, marked, shift) for shift in range(n)])
    if len(row) == 0:
        return [NONE_FOUND]
    return [len(row)] + row


def turned(numbers, d):
    n = len(numbers)
    return [numbers[(place - d) % n] for place in range(n)]


def cf_turn(a):
    refused = refusal([a], MOST_PLACES)
    if refused != NOTHING_REFUSED:
        return [refused]
    d = 1
    # Turned by n a set is itself, so this ends.
    while turned(a, d) != a:
        d += 1
    return [d]


# The different primes from the least on, each as a pair with how often it divides.
def primes_and_times(number):
    pairs = []
    rest = number
    prime = 2
    while prime * prime <= rest:
        times = 0
        while rest % prime == 0:
            rest = rest // prime
            times += 1
        if times > 0:
            pairs.append((prime, times))
        prime += 1
    if rest > 1:
        pairs.append((rest, 1))
    return pairs


def cancels_out(marked, d):
    counts = [0] * d
    for place in marked:
        counts[place % d] += 1
    for pair in primes_and_times(d):
        step = d // pair[0]
        counts = [counts[r] - counts[(r - step) % d] for r in range(d)]
    return all([count == 0 for count in counts])


def parts_that_cancel(numbers):
    n = len(numbers)
    marked = places_of(numbers)
    return [d for d in range(2, n + 1) if n % d == 0 and cancels_out(marked, d)]


def cf_marks(a):
    refused = refusal([a], MOST_PLACES)
    if refused != NOTHING_REFUSED:
        return [refused]
    parts = parts_that_cancel(a)
    return [len(parts)] + parts


def has_primes_product(size, powers):
    product = 1
    for power in powers:
        product = product * primes_and_times(power)[0][0]
    return size == product


# Products of powers whose primes are all different; each power by itself is
# among them and cancels out anyway, so it need not be kept apart.
def products_of_powers(powers):
    products = [1]
    for power in powers:
        prime = primes_and_times(power)[0][0]
        products = products + [product * power for product in products if product % prime != 0]
    return products[1:]


def cf_tests(a):
    refused = refusal([a], MOST_PLACES)
    if refused != NOTHING_REFUSED:
        return [refused]
    size = len(places_of(a))
    if size == 0:
        return [NOT_A_SET]
    parts = parts_that_cancel(a)
    powers = [d for d in parts if len(primes_and_times(d)) == 1]
    answer = 0
    if has_primes_product(size, powers):
        answer += 1
    if all([product in parts for product in products_of_powers(powers)]):
        answer += 2
    return [answer]


# On the line, gone along from left to right, the first place not yet reached
# can only be reached by the least number of the next copy. So what lies ahead
# of a place, bit k for the k-th place from there on, settles all that follows.
def ahead_of_next(ahead, copy_bits):
    if (ahead & 1) == 1:
        return ahead >> 1
    if (ahead & copy_bits) != 0:
        return CLASH
    return (ahead | copy_bits) >> 1


# Each step can be taken back, for the last bit ahead tells whether a copy was
# laid. So a way that ever comes round comes round to where it began.
def steps_around(start, copy_bits, seen):
    ahead = start
    steps = 0
    while ahead != CLASH and ahead not in seen:
        seen[ahead] = True
        ahead = ahead_of_next(ahead, copy_bits)
        steps += 1
    if ahead == start and steps > 0:
        return steps
    return 0


def parts_of(bits):
    parts = [0]
    for k in range(bits.bit_length()):
        if ((bits >> k) & 1) == 1:
            parts = parts + [part | (1 << k) for part in parts]
    return parts


# A ring of n places that is filled is the line filled, the same again after
# every n places. Each filling lays a copy somewhere, so it is enough to begin
# where a copy fits: with each part of what the copy leaves free.
def least_way_around(copy_bits):
    free = ((1 << copy_bits.bit_length()) - 1) ^ copy_bits
    seen = {}
    ways = [steps_around(start, copy_bits, seen) for start in parts_of(free)]
    return min([steps for steps in ways if steps > 0], default=0)


def cf_line(a):
    if a < 1 or a > GREATEST_LINE or a % 2 == 0:
        return [OUT_OF_RANGE]
    least = least_way_around(a)
    if least == 0:
        return [NONE_FOUND]
    return [least]


def divides_shape(times, shape):
    if len(times) > len(shape):
        return False
    return all([times[k] <= shape[k] for k in range(len(times))])


# The answer of Hajos, de Bruijn, Redei and Sands: a ring is good just where n
# divides a number of one of these shapes, primes p, q, r, s all different.
def cf_good(n):
    if n < 2 or n > GREATEST_RING:
        return [OUT_OF_RANGE]
    times = sorted([pair[1] for pair in primes_and_times(n)], reverse=True)
    if any([divides_shape(times, shape) for shape in GOOD_SHAPES]):
        return [1]
    return [0]
