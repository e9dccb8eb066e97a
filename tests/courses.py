"""Systems whose courses are known: exactly, or to seventy digits.

A KNOWN is a tuple (system, course): the course is a function of a point, a tuple of Fractions,
and a time, a Fraction; it tells the row of numbers, or None where the course is not there any more.
"""

from decimal import Decimal, localcontext
from fractions import Fraction

from tests.decimals import cosine, exp, sine

ONE = 2 ** 40


def term(letters, ratio, *positions):
    exponents = [0] * letters
    for position in positions:
        exponents[position] += 1
    return (tuple(exponents), ratio)


def system(names, *polys):
    return ("system", tuple(names), tuple(tuple(sorted(poly)) for poly in polys))


GROWS = system("x", [((1,), (1, 1))])
FALLS = system("x", [((1,), (-1, 1))])
BURSTS = system("x", [((2,), (1, 1))])
TURNS = system("xy", [term(2, (-1, 1), 1)], [term(2, (1, 1), 0)])
CLOCK = system("t", [((0,), (1, 1))])
STILL = system("x", [])
RATED = system("ax", [], [term(2, (-1, 1), 0, 1)])
THROWN = system("hvg", [term(3, (1, 1), 1)], [term(3, (-1, 1), 2)], [])
FADES = system("xy", [term(2, (-1, 1), 0, 0)], [term(2, (1, 1), 0, 1)])
SPIRALS = system("xy", [term(2, (-1, 2), 0), term(2, (-2, 1), 1)],
                 [term(2, (2, 1), 0), term(2, (-1, 2), 1)])
SPREADS = system("rx", [], [term(2, (1, 1), 0, 1), term(2, (-1, 1), 0, 1, 1)])


def decimal(number):
    with localcontext() as context:
        context.prec = 100
        return Decimal(number.numerator) / Decimal(number.denominator)


def _exact(number):
    """A Decimal as a Fraction; it is within 10 ** -60 of what it stands for."""
    return Fraction(number)


def _exp(number):
    return _exact(exp(decimal(number)))


def _turned(point, time, speed=1):
    c, s = _exact(cosine(decimal(speed * time))), _exact(sine(decimal(speed * time)))
    return (c * point[0] - s * point[1], s * point[0] + c * point[1])


def _burst(point, time):
    left = 1 - point[0] * time
    return (point[0] / left,) if left > 0 else None


def _spread(point, time):
    rate, x = point
    grown = _exp(rate * time)
    under = 1 - x + x * grown
    return (rate, x * grown / under) if under > 0 else None


def _spiral(point, time):
    faded = _exp(-time / 2)
    return tuple(faded * x for x in _turned(point, time, 2))


KNOWN = {
    "grows": (GROWS, lambda p, t: (p[0] * _exp(t),)),
    "falls": (FALLS, lambda p, t: (p[0] * _exp(-t),)),
    "bursts": (BURSTS, _burst),
    "turns": (TURNS, _turned),
    "clock": (CLOCK, lambda p, t: (p[0] + t,)),
    "still": (STILL, lambda p, t: p),
    "rated": (RATED, lambda p, t: (p[0], p[1] * _exp(-p[0] * t))),
    "thrown": (THROWN, lambda p, t: (p[0] + p[1] * t - p[2] * t * t / 2, p[1] - p[2] * t, p[2])),
    "fades": (FADES, lambda p, t: (p[0] / (1 + p[0] * t), p[1] * (1 + p[0] * t))),
    "spirals": (SPIRALS, _spiral),
    "spreads": (SPREADS, _spread),
}

# For each a box of starts in which, and a time up to which, all goes well; grains.
BOXES = {
    "grows": ((ONE, ONE + ONE // 10),),
    "falls": ((ONE // 2, ONE),),
    "bursts": ((ONE // 4, ONE // 3),),
    "turns": ((ONE, ONE + ONE // 10), (0, ONE // 10)),
    "clock": ((-ONE, ONE // 7),),
    "still": ((-5, ONE),),
    "rated": ((ONE // 10, ONE // 5), (ONE, 3 * ONE // 2)),
    "thrown": ((0, 3), (ONE, 2 * ONE), (9 * ONE, 10 * ONE)),
    "fades": ((ONE, ONE + ONE // 8), (ONE // 2, ONE)),
    "spirals": ((ONE, ONE + ONE // 20), (-ONE // 20, ONE // 20)),
    "spreads": ((ONE, ONE + ONE // 20), (ONE // 10, ONE // 8)),
}


def starts(box, random, many):
    """Corners, the middle, and further points of a box, as tuples of Fractions."""
    found = [tuple(Fraction(low, ONE) for low, _ in box), tuple(Fraction(high, ONE) for _, high in box),
             tuple(Fraction(low + high, 2 * ONE) for low, high in box)]
    for _ in range(many):
        found.append(tuple(
            Fraction(low, ONE) + Fraction(high - low, ONE) * random.choice(
                [Fraction(0), Fraction(1), Fraction(random.randint(0, 1000), 1000)])
            for low, high in box))
    return found


# Courses that are told to so many digits may seem to be as little as this beyond an end.
NEAR = Fraction(1, 10 ** 50)


def lies_in(row, box):
    return all(
        Fraction(low, ONE) - NEAR <= x <= Fraction(high, ONE) + NEAR for x, (low, high) in zip(row, box))
