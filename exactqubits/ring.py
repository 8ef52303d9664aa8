"""The calls on numbers of the ring, which need no state."""

from exactqubits.omega import (
    ZERO, added, conjugate, depth_of, lessened, lowest, product, rotated, sign_of, size_of, times_root,
)
from exactqubits.refusals import NEVER


def plus(x0, x1, x2, x3, y0, y1, y2, y3):
    return [0] + list(added((x0, x1, x2, x3), (y0, y1, y2, y3)))


def minus(x0, x1, x2, x3, y0, y1, y2, y3):
    return [0] + list(lessened((x0, x1, x2, x3), (y0, y1, y2, y3)))


def times(x0, x1, x2, x3, y0, y1, y2, y3):
    return [0] + list(product((x0, x1, x2, x3), (y0, y1, y2, y3)))


def turned(x0, x1, x2, x3, j):
    return [0] + list(rotated((x0, x1, x2, x3), j))


def bar(x0, x1, x2, x3):
    return [0] + list(conjugate((x0, x1, x2, x3)))


def raised(x0, x1, x2, x3, k):
    x = (x0, x1, x2, x3)
    for step in range(k):
        x = times_root(x)
    return [0] + list(x)


def lowered(x0, x1, x2, x3, k):
    return [0] + list(lowest([(x0, x1, x2, x3)], k)[0][0])


def depth(x0, x1, x2, x3):
    x = (x0, x1, x2, x3)
    # 0 can be divided without end.
    if x == ZERO:
        return [NEVER]
    return [0, depth_of(x)]


def size(x0, x1, x2, x3):
    return [0] + list(size_of((x0, x1, x2, x3)))


def sign(u, v):
    return [0, sign_of(u, v)]
