"""Other ways to the same results, with Python's own fractions, to hold the package against."""

from fractions import Fraction
from itertools import product
from math import ceil, comb, floor

ONE = 2 ** 40


def fraction(ratio):
    return Fraction(ratio[0], ratio[1])


def ratio(number):
    number = Fraction(number)
    return (number.numerator, number.denominator)


def least(numbers):
    """The least interval of grains that has these numbers."""
    return (floor(min(numbers) * ONE), ceil(max(numbers) * ONE))


def ends(interval):
    return [Fraction(end, ONE) for end in interval]


def table(poly):
    return {exponents: fraction(own) for exponents, own in poly}


def poly(found):
    return tuple((e, ratio(c)) for e, c in sorted(found.items()) if c != 0)


def value(own, point):
    total = Fraction(0)
    for exponents, number in own:
        term = fraction(number)
        for many, x in zip(exponents, point):
            term *= Fraction(x) ** many
        total += term
    return total


def times(one, other):
    """The product of two tables."""
    found = {}
    for a, x in one.items():
        for b, y in other.items():
            both = tuple(i + j for i, j in zip(a, b))
            found[both] = found.get(both, 0) + x * y
    return found


def put(own, polys, letters):
    found = {}
    for exponents, number in own:
        term = {(0,) * letters: fraction(number)}
        for many, other in zip(exponents, polys):
            for _ in range(many):
                term = times(term, table(other))
        for e, c in term.items():
            found[e] = found.get(e, 0) + c
    return poly(found)


def corners(own, box):
    """The corner numbers by the very sum of the document."""
    letters = len(box)
    degrees = [max([e[k] for e, _ in own], default=0) for k in range(letters)]
    unit = (0,) * letters
    found = {}
    for exponents, number in own:
        term = {unit: fraction(number)}
        for k, many in enumerate(exponents):
            low, high = ends(box[k])
            line = {unit: low, tuple(int(j == k) for j in range(letters)): high - low}
            for _ in range(many):
                term = times(term, line)
        for e, c in term.items():
            found[e] = found.get(e, 0) + c
    told = []
    for k in product(*[range(d + 1) for d in degrees]):
        total = Fraction(0)
        for j in product(*[range(m + 1) for m in k]):
            part = found.get(j, Fraction(0))
            for a, b, d in zip(k, j, degrees):
                part *= Fraction(comb(a, b), comb(d, b))
            total += part
        told.append(ratio(total))
    return told


def matrix(rows):
    return [[fraction(part) for part in row] for row in rows]


def determinant(rows):
    """By the first row, on and on."""
    if not rows:
        return Fraction(1)
    total = Fraction(0)
    for k, number in enumerate(rows[0]):
        rest = [row[:k] + row[k + 1:] for row in rows[1:]]
        total += (-1) ** k * number * determinant(rest)
    return total


def some_ratio(random, size=9):
    return ratio(Fraction(random.randint(-size, size), random.randint(1, size)))


def some_interval(random, size):
    return tuple(sorted(random.randint(-size, size) for _ in range(2)))


def some_poly(random, letters, terms, degree):
    found = {}
    for _ in range(terms):
        exponents = [0] * letters
        for _ in range(random.randint(0, degree)):
            exponents[random.randrange(letters)] += 1
        found[tuple(exponents)] = fraction(some_ratio(random))
    return poly(found)
