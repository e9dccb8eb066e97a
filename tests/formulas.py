"""The fixed formulas, told once more as the document tells them, without any short way.

Intervals are reckoned here with Python's own fractions. Beyond is raised where an interval that
is made would have an end beyond 2 ** 70 grains.
"""

from fractions import Fraction
from math import ceil, floor

ONE = 2 ** 40
MOST = 2 ** 70


class Beyond(Exception):
    pass


def made(low, high):
    if low < -MOST or high > MOST:
        raise Beyond()
    return (low, high)


def plus(x, y):
    return made(x[0] + y[0], x[1] + y[1])


def minus(x, y):
    return made(x[0] - y[1], x[1] - y[0])


def times(x, y):
    products = [Fraction(a * b, ONE) for a in x for b in y]
    return made(floor(min(products)), ceil(max(products)))


def around(ratio):
    number = Fraction(*ratio) * ONE
    return made(floor(number), ceil(number))


def scaled(x, ratio):
    ends = [a * Fraction(*ratio) for a in x]
    return made(floor(min(ends)), ceil(max(ends)))


def powered(x, n):
    if n == 0:
        return (ONE, ONE)
    powers = [Fraction(a ** n, ONE ** (n - 1)) for a in x]
    low = min(powers)
    if n % 2 == 0 and x[0] <= 0 <= x[1]:
        low = 0
    return made(floor(low), ceil(max(powers)))


def plain_range(poly, box):
    total = (0, 0)
    for exponents, ratio in poly:
        product = (ONE, ONE)
        for many, x in zip(exponents, box):
            if many != 0:
                product = times(product, powered(x, many))
        total = plus(total, scaled(product, ratio))
    return total


def product_number(one, other, k):
    total = (0, 0)
    for i in range(k + 1):
        total = plus(total, times(one[i], other[k - i]))
    return total


def term_series(exponents, series, k):
    """The numbers 0 to k of the product of a term's letters."""
    row = [(ONE, ONE)] + [(0, 0)] * k
    for many, letter in zip(exponents, series):
        for _ in range(many):
            row = [product_number(row, letter, j) for j in range(k + 1)]
    return row


def poly_number(poly, series, k):
    total = (0, 0)
    for exponents, ratio in poly:
        total = plus(total, scaled(term_series(exponents, series, k)[k], ratio))
    return total


def series(polys, box, last):
    """For each letter its coefficients c_0 to c_last."""
    rows = [[x] for x in box]
    for k in range(last):
        news = [scaled(poly_number(poly, rows, k), (1, k + 1)) for poly in polys]
        for row, new in zip(rows, news):
            row.append(new)
    return rows


def slope_term(exponents, rows, slopes, k):
    """Number k of the slope of a term's product, by one start."""
    p = [(ONE, ONE)] + [(0, 0)] * k
    q = [(0, 0)] * (k + 1)
    for many, a, s in zip(exponents, rows, slopes):
        for _ in range(many):
            new_q = []
            for j in range(k + 1):
                total = (0, 0)
                for i in range(j + 1):
                    total = plus(total, times(p[i], s[j - i]))
                for i in range(j + 1):
                    total = plus(total, times(q[i], a[j - i]))
                new_q.append(total)
            p = [product_number(p, a, j) for j in range(k + 1)]
            q = new_q
    return q[k]


def slopes(polys, box, many):
    """The matrices 0 to many - 1 of the slopes by the start."""
    letters = range(len(polys))
    rows = series(polys, box, many - 1)
    found = [[[(ONE, ONE) if i == j else (0, 0) for j in letters] for i in letters]]
    for k in range(many - 1):
        new = [[None] * len(polys) for _ in letters]
        for j in letters:
            own = [[found[m][i][j] for m in range(k + 1)] for i in letters]
            for i in letters:
                total = (0, 0)
                for exponents, ratio in polys[i]:
                    total = plus(total, scaled(slope_term(exponents, rows, own, k), ratio))
                new[i][j] = scaled(total, (1, k + 1))
        found.append(new)
    return [tuple(tuple(row) for row in matrix) for matrix in found]


def needed(polys, box, step, held):
    return tuple(
        plus(x, times((0, step), plain_range(poly, held))) for x, poly in zip(box, polys))


def box_within(box, other):
    return all(b[0] <= a[0] and a[1] <= b[1] for a, b in zip(box, other))


def holds(polys, box, step, held):
    return box_within(needed(polys, box, step, held), held)


def hull(x, y):
    return (min(x[0], y[0]), max(x[1], y[1]))


def trial(polys, box, step):
    found = []
    for x, moved in zip(box, needed(polys, box, 2 * step, box)):
        low, high = hull(x, moved)
        found.append(made(low - 1, high + 1))
    return tuple(found)


def sums(polys, box, times_of, many, held):
    """What END and DURING tell, without the meet."""
    far = series(polys, held, many)
    near = series(polys, box, many - 1)
    found = []
    for own, rest in zip(near, far):
        e = rest[many]
        for k in range(many - 1, -1, -1):
            e = plus(own[k], times(times_of, e))
        found.append(e)
    return found


def met(boxes, held):
    found = []
    for x, y in zip(boxes, held):
        low, high = max(x[0], y[0]), min(x[1], y[1])
        assert low <= high
        found.append((low, high))
    return tuple(found)


def end(polys, box, step, many, held):
    return met(sums(polys, box, (step, step), many, held), held)


def during(polys, box, early, late, many, held):
    return met(sums(polys, box, (early, late), many, held), held)


def set_hull(source):
    _, m, a, r = source
    found = []
    for ratio, row in zip(m, a):
        total = (0, 0)
        for x, number in zip(r, row):
            total = plus(total, scaled(x, number))
        found.append(plus(around(ratio), total))
    return tuple(found)


def ranges(polys, source, step, many, held, middle, matrix, inverse):
    """The ranges of a carried paper; the inverse is that of the matrix."""
    _, m, a, r = source
    letters = range(len(polys))
    x = set_hull(source)
    around_m = tuple(around(ratio) for ratio in m)
    both = tuple(hull(one, other) for one, other in zip(x, around_m))
    by_number = slopes(polys, both, many)
    j = [[None] * len(polys) for _ in letters]
    for i in letters:
        for k in letters:
            e = by_number[many - 1][i][k]
            for n in range(many - 2, -1, -1):
                e = plus(by_number[n][i][k], times((step, step), e))
            j[i][k] = e
    g = [[added([scaled(j[i][n], a[n][k]) for n in letters]) for k in letters] for i in letters]
    turned = [[added([scaled(g[i][k], inverse[n][i]) for i in letters]) for k in letters] for n in letters]
    ends = sums(polys, around_m, (step, step), many, held)
    d = [minus(one, around(ratio)) for one, ratio in zip(ends, middle)]
    found = []
    for n in letters:
        first = added([times(turned[n][k], r[k]) for k in letters])
        found.append(plus(first, added([scaled(d[i], inverse[n][i]) for i in letters])))
    return tuple(found)


def added(parts):
    total = (0, 0)
    for part in parts:
        total = plus(total, part)
    return total
