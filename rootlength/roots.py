"""Sums of roots, exactly: a dict tells how many times the root of each kind a sum has, and holds no 0."""

MOST_KINDS = 10
FIRST_PLACES = 64


def kind_and_factor(n):
    """The s without a square factor above 1 and the c above 0 with n = c c s, for n above 0."""
    s = n
    c = 1
    d = 2
    while d * d <= s:
        if s % (d * d) == 0:
            s = s // (d * d)
            c = c * d
        else:
            d = d + 1
    return (s, c)


def without_zeros(times):
    """The same sum, told by those kinds alone of which it has some."""
    kinds = {}
    for s, many in times.items():
        if many != 0:
            kinds[s] = many
    return kinds


def add_roots(times, numbers, way):
    """Adds way times the roots of the numbers, kind by kind, to times."""
    for n in numbers:
        # The root of 0 adds nothing, and is of no kind.
        if n > 0:
            found = kind_and_factor(n)
            times[found[0]] = times.get(found[0], 0) + way * found[1]


def difference(first, second):
    """The sum of first's roots less that of second's; first and second are lists of numbers."""
    times = {}
    add_roots(times, first, 1)
    add_roots(times, second, -1)
    return without_zeros(times)


def scaled_less(kinds, d, c):
    """d times the sum, less the whole number c, for d above 0."""
    times = {}
    for s, many in kinds.items():
        times[s] = d * many
    times[1] = times.get(1, 0) - c
    return without_zeros(times)


def has_too_many(kinds):
    """Whether there are more kinds other than 1 than are answered for."""
    return len([s for s in kinds if s != 1]) > MOST_KINDS


def whole_root(n):
    """The greatest whole number whose square is at most n, for n above 0."""
    # From a start that isn't below the root, each step comes nearer until it's there.
    root = 1 << ((n.bit_length() + 1) // 2)
    nearer = (root + n // root) // 2
    while nearer < root:
        root = nearer
        nearer = (root + n // root) // 2
    return root


def enclose(kinds, places):
    """Two whole numbers, the sum times the places-th power of 2 being at least the first and at most the second."""
    low = 0
    high = 0
    for s, c in kinds.items():
        below = whole_root(s << (2 * places))
        # The root of 1 is told just so, every other kind's lies between two whole numbers.
        above = below if s == 1 else below + 1
        low = low + (c * below if c > 0 else c * above)
        high = high + (c * above if c > 0 else c * below)
    return (low, high)


def side_of_zero(kinds):
    """1, 0 or -1: the sum is above 0, is 0, or is below 0."""
    # Roots of kinds that differ never make up 0, so without a kind it is 0, and with some the loop ends.
    if len(kinds) == 0:
        return 0
    places = FIRST_PLACES
    bounds = enclose(kinds, places)
    while bounds[0] <= 0 and bounds[1] >= 0:
        places = 2 * places
        bounds = enclose(kinds, places)
    return 1 if bounds[0] > 0 else -1


def whole_part(kinds, factor):
    """The greatest whole number that's at most factor times the sum."""
    # With a kind other than 1 the sum is no fraction, so the bounds come to lie between the same whole numbers;
    # without one the bounds are the same from the start.
    places = FIRST_PLACES
    bounds = enclose(kinds, places)
    while (factor * bounds[0]) >> places != (factor * bounds[1]) >> places:
        places = 2 * places
        bounds = enclose(kinds, places)
    return (factor * bounds[0]) >> places


def whole_above(kinds):
    """The least whole number that's at least the sum."""
    below = whole_part(kinds, 1)
    # A sum with a kind other than 1 is never whole, one without always is.
    return below if all([s == 1 for s in kinds]) else below + 1
