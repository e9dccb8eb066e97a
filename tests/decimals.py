"""The known functions to seventy digits, by Python's decimals."""

from decimal import Decimal, getcontext, localcontext
from math import ceil, floor

ONE = 2 ** 40
DIGITS = 70


def pi():
    with localcontext() as context:
        context.prec = DIGITS + 10
        return 16 * _arctan(5) - 4 * _arctan(239)


def _arctan(under):
    total, power, k = Decimal(0), Decimal(1) / under, 0
    while abs(power) > Decimal(10) ** (-DIGITS - 10):
        total += power / (2 * k + 1)
        power = -power / (under * under)
        k += 1
    return total


def number(grains):
    with localcontext() as context:
        context.prec = DIGITS
        return Decimal(grains) / ONE


def exp(x):
    with localcontext() as context:
        context.prec = DIGITS
        return x.exp()


def log(x):
    with localcontext() as context:
        context.prec = DIGITS
        return x.ln()


def sine(x):
    with localcontext() as context:
        context.prec = DIGITS + 40
        total, term, k = Decimal(0), x, 1
        while abs(term) > Decimal(10) ** -(DIGITS + 35) or k < 2 * abs(x):
            total += term
            term = -term * x * x / ((k + 1) * (k + 2))
            k += 2
        return total


def cosine(x):
    with localcontext() as context:
        context.prec = DIGITS + 40
        return sine(x + pi() / 2)


def least(values):
    """The least interval of grains around some values."""
    with localcontext() as context:
        context.prec = DIGITS + 40
        return (floor(min(values) * ONE), ceil(max(values) * ONE))


def is_near(told, exact, most=64):
    """Whether an interval holds the least one, and goes beyond by so many grains at most."""
    return 0 <= exact[0] - told[0] <= most and 0 <= told[1] - exact[1] <= most


getcontext().prec = DIGITS
