"""A slow second reckoning to hold the program against: amplitudes as quotients, gates as matrices."""

from fractions import Fraction

NAUGHT = (Fraction(0),) * 4
UNIT = (Fraction(1), Fraction(0), Fraction(0), Fraction(0))
HALF_ROOT = (Fraction(0), Fraction(1, 2), Fraction(0), Fraction(-1, 2))
ROOT = (Fraction(0), Fraction(1), Fraction(0), Fraction(-1))


def add(x, y):
    return tuple(p + q for p, q in zip(x, y))


def mul(x, y):
    """Polynomials in w multiplied out, w^4 being -1."""
    out = [Fraction(0)] * 8
    for i, p in enumerate(x):
        for j, q in enumerate(y):
            out[i + j] += p * q
    return tuple(out[i] - out[i + 4] for i in range(4))


def power_of_w(j):
    out = [Fraction(0)] * 4
    out[j % 4] = Fraction(1 if j % 8 < 4 else -1)
    return tuple(out)


def negative(x):
    return tuple(-p for p in x)


def put_in(x, j):
    """x with w^j in w's place."""
    out = NAUGHT
    for i, p in enumerate(x):
        out = add(out, tuple(p * q for q in power_of_w(i * j)))
    return out


def conj(x):
    return put_in(x, 7)


def inverse(x):
    rest = mul(mul(put_in(x, 3), put_in(x, 5)), put_in(x, 7))
    norm = mul(x, rest)
    assert norm[1:] == NAUGHT[1:]
    return tuple(p / norm[0] for p in rest)


W0, W1, W2, W4, W6, W7 = [power_of_w(j) for j in (0, 1, 2, 4, 6, 7)]
MATRICES = [
    ((NAUGHT, UNIT), (UNIT, NAUGHT)),
    ((NAUGHT, W6), (W2, NAUGHT)),
    ((UNIT, NAUGHT), (NAUGHT, W4)),
    ((HALF_ROOT, HALF_ROOT), (HALF_ROOT, negative(HALF_ROOT))),
    ((UNIT, NAUGHT), (NAUGHT, W2)),
    ((UNIT, NAUGHT), (NAUGHT, W6)),
    ((UNIT, NAUGHT), (NAUGHT, W1)),
    ((UNIT, NAUGHT), (NAUGHT, W7)),
]


class Model:
    def __init__(self, n):
        self.n = n
        self.vector = [UNIT] + [NAUGHT] * (2 ** n - 1)

    def gate(self, g, q, controls):
        new = [NAUGHT] * len(self.vector)
        for i, z in enumerate(self.vector):
            if any(controls >> c & 1 and not i >> c & 1 for c in range(self.n)):
                new[i] = add(new[i], z)
                continue
            old = i >> q & 1
            for bit in (0, 1):
                j = i - (old << q) + (bit << q)
                new[j] = add(new[j], mul(MATRICES[g][bit][old], z))
        self.vector = new

    def form(self):
        """Least level, and the whole numbers there."""
        k = 0
        vector = self.vector
        while any(p.denominator != 1 for z in vector for p in z):
            vector = [mul(z, ROOT) for z in vector]
            k += 1
        return k, [tuple(int(p) for p in z) for z in vector]

    def too_fine(self):
        return any(abs(p) > 2 ** 56 for z in self.form()[1] for p in z)

    def weight(self, mask, value):
        total = NAUGHT
        for i, z in enumerate(self.form()[1]):
            if i & mask == value:
                total = add(total, mul(z, conj(z)))
        return real(total)

    def mean(self, xs, zs):
        zs_of = self.form()[1]
        total = NAUGHT
        for i, z in enumerate(zs_of):
            unit = power_of_w(2 * bin(xs & zs).count("1") + 4 * bin(i & zs).count("1"))
            total = add(total, mul(mul(conj(zs_of[i ^ xs]), unit), z))
        return real(total)

    def inner(self, other):
        total = NAUGHT
        for x, y in zip(self.form()[1], other.form()[1]):
            total = add(total, mul(conj(x), y))
        return [int(p) for p in total]

    def same(self, other):
        return 1 if likeness(self.vector, other.vector) else 0

    def table(self, mask):
        rows = {}
        for i, z in enumerate(self.vector):
            rows.setdefault(i & mask, {})[i & ~mask] = z
        return [[row[c] for c in sorted(row)] for row in (rows[r] for r in sorted(rows))]

    def rank(self, mask):
        rows = self.table(mask)
        done = 0
        for column in range(len(rows[0])):
            pivot = next((r for r in range(done, len(rows)) if rows[r][column] != NAUGHT), None)
            if pivot is None:
                continue
            rows[done], rows[pivot] = rows[pivot], rows[done]
            scale = inverse(rows[done][column])
            for r in range(done + 1, len(rows)):
                by = negative(mul(rows[r][column], scale))
                rows[r] = [add(x, mul(by, y)) for x, y in zip(rows[r], rows[done])]
            done += 1
        return done

    def look(self, q, b):
        """Whether it can be; if so it's done."""
        new = [z if i >> q & 1 == b else NAUGHT for i, z in enumerate(self.vector)]
        if all(z == NAUGHT for z in new):
            return False
        self.vector = new
        return True

    def keep(self, mask):
        first = next(i for i, z in enumerate(self.vector) if z != NAUGHT)
        places = [q for q in range(self.n) if mask >> q & 1]
        new = []
        for r in range(2 ** len(places)):
            i = first & ~mask
            for bit, q in enumerate(places):
                i |= (r >> bit & 1) << q
            new.append(self.vector[i])
        self.n = len(places)
        self.vector = new

    def beside(self, other):
        size = len(self.vector)
        total = size * len(other.vector)
        self.vector = [mul(self.vector[i % size], other.vector[i // size]) for i in range(total)]
        self.n += other.n

    def moved(self, to):
        new = list(self.vector)
        for i, z in enumerate(self.vector):
            bits = ["0"] * self.n
            for q in range(self.n):
                bits[self.n - 1 - to[q]] = "1" if i >> q & 1 else "0"
            new[int("".join(bits) or "0", 2)] = z
        self.vector = new

    def copy(self):
        other = Model(self.n)
        other.vector = list(self.vector)
        return other


def factors(left, right):
    """All factors that take numbers on the right to those on the left; None is among them where there's none."""
    found = set()
    for x, y in zip(left, right, strict=True):
        if x == NAUGHT and y == NAUGHT:
            continue
        found.add(None if y == NAUGHT else mul(x, inverse(y)))
    return found


def table_of(n, gates):
    """All numbers of the matrix that the gates are, column by column."""
    numbers = []
    for i in range(2 ** n):
        column = Model(n)
        column.vector = [UNIT if j == i else NAUGHT for j in range(2 ** n)]
        for step in gates:
            column.gate(*step)
        numbers += column.vector
    return numbers


def likeness(left, right):
    """2 if the tables are the same, 1 if but for one factor, else 0."""
    found = factors(left, right)
    if len(found) > 1 or NAUGHT in found or None in found:
        return 0
    return 2 if found == {UNIT} else 1


def real(x):
    assert x[2] == 0 and x[1] == -x[3]
    return [int(x[0]), int(x[1])]
