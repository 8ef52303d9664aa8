"""What is told of states without changing them."""

from exactqubits.amplitudes import ones_in
from exactqubits.omega import ZERO, added, conjugate, lessened, product, rotated, size_of


def weight(state, mask, value):
    u = 0
    v = 0
    for i, z in enumerate(state.amps):
        if (i & mask) == value:
            part = size_of(z)
            u += part[0]
            v += part[1]
    return [u, v]


def mean(state, xs, zs):
    amps = state.amps
    total = ZERO
    for i, z in enumerate(amps):
        turns = 2 * ones_in(xs & zs) + 4 * ones_in(i & zs)
        total = added(total, product(conjugate(amps[i ^ xs]), rotated(z, turns)))
    # A real number u + v root 2 is u + v w - v w^3.
    return [total[0], total[1]]


def inner_product(left, right):
    total = ZERO
    for x, y in zip(left.amps, right.amps):
        total = added(total, product(conjugate(x), y))
    return list(total)


def proportional(left, right):
    """Whether the amplitudes of one are those of the other times one number."""
    pivot = first_filled(left.amps)
    x = left.amps[pivot]
    y = right.amps[pivot]
    # Were y 0, the products would be alike only if all of right were 0, and no state is.
    return all([product(a, y) == product(b, x) for a, b in zip(left.amps, right.amps)])


def first_filled(numbers):
    """The first place of a number that isn't 0; how many there are if each is."""
    for place, z in enumerate(numbers):
        if z != ZERO:
            return place
    return len(numbers)


def rank(rows):
    """The rank of a table of numbers, a list of its rows."""
    found = 0
    left = rows
    while left:
        top = left[0]
        left = left[1:]
        column = first_filled(top)
        if column < len(top):
            found += 1
            left = [cleared(row, top, column) for row in left]
    return found


def cleared(row, top, column):
    """The row times a number, less top times a number, so that 0 stands in the column."""
    # Multiplying crosswise needs no division, so all stays within the ring.
    if row[column] == ZERO:
        return row
    by = top[column]
    off = row[column]
    return [lessened(product(y, by), product(x, off)) for x, y in zip(top, row)]
