"""Numbers of the ring: a + b w + c w^2 + d w^3 is the tuple (a, b, c, d); w^4 is -1, root 2 is w - w^3."""

ZERO = (0, 0, 0, 0)
ONE = (1, 0, 0, 0)


def added(x, y):
    return (x[0] + y[0], x[1] + y[1], x[2] + y[2], x[3] + y[3])


def lessened(x, y):
    return (x[0] - y[0], x[1] - y[1], x[2] - y[2], x[3] - y[3])


def product(x, y):
    return (
        x[0] * y[0] - x[1] * y[3] - x[2] * y[2] - x[3] * y[1],
        x[0] * y[1] + x[1] * y[0] - x[2] * y[3] - x[3] * y[2],
        x[0] * y[2] + x[1] * y[1] + x[2] * y[0] - x[3] * y[3],
        x[0] * y[3] + x[1] * y[2] + x[2] * y[1] + x[3] * y[0],
    )


def rotated(x, j):
    """x w^j, for any j."""
    # Eight turns are a full one and four change the sign, so a turn is a window on this wheel.
    wheel = x + (-x[0], -x[1], -x[2], -x[3]) + x
    start = 8 - j % 8
    return wheel[start:start + 4]


def conjugate(x):
    return (x[0], -x[3], -x[2], -x[1])


def times_root(x):
    """x times root 2."""
    return (x[1] - x[3], x[0] + x[2], x[1] + x[3], x[2] - x[0])


def all_lowerable(numbers):
    """Whether each of the numbers is a multiple of root 2."""
    for a, b, c, d in numbers:
        if (a ^ c) & 1 or (b ^ d) & 1:
            return False
    return True


def all_lowered(numbers):
    """Multiples of root 2, each divided by it."""
    # Dividing by root 2 is multiplying by it and halving.
    return [((b - d) // 2, (a + c) // 2, (b + d) // 2, (c - a) // 2) for a, b, c, d in numbers]


def lowest(numbers, most):
    """The numbers, divided by root 2 as often as all can be, most times at most; and how many times were left."""
    while most > 0 and all_lowerable(numbers):
        numbers = all_lowered(numbers)
        most -= 1
    return (numbers, most)


def depth_of(x):
    """How often x, which isn't 0, can be divided by root 2."""
    numbers = [x]
    count = 0
    while all_lowerable(numbers):
        numbers = all_lowered(numbers)
        count += 1
    return count


def size_of(x):
    """u and v, where x times its conjugate is u + v root 2."""
    u = x[0] * x[0] + x[1] * x[1] + x[2] * x[2] + x[3] * x[3]
    v = x[0] * x[1] + x[1] * x[2] + x[2] * x[3] - x[3] * x[0]
    return (u, v)


def sign_of(u, v):
    """-1, 0 or 1, as u + v root 2 is below, at or above 0."""
    # Squares that keep the sign stand in the same order as what is squared, and they are whole.
    left = u * abs(u)
    right = -2 * v * abs(v)
    if left == right:
        return 0
    return 1 if left > right else -1
