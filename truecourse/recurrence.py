"""Series along courses, and how they hang on the starts, number by number.

The same is done with exact numbers and with intervals: a WAY tells how these are reckoned with.
A ROW is the list of the first numbers of a series; the first rows are those of the letters, the
others those of PRODUCTS, each of a row further ahead and of a letter.
"""

from truecourse.exact import NOUGHT, UNIT, ratio_plus, ratio_times
from truecourse.grains import NOTHING, WHOLE, grain_plus, grain_products, grain_scaled


class ExactWay:
    def nothing(self):
        return NOUGHT

    def whole(self):
        return UNIT

    def added(self, one, other):
        return ratio_plus(one, other)

    def taken(self, one, ratio):
        return ratio_times(one, ratio)

    def products(self, firsts, seconds):
        total = NOUGHT
        for one, other in zip(firsts, seconds):
            total = ratio_plus(total, ratio_times(one, other))
        return total


class GrainWay:
    def nothing(self):
        return NOTHING

    def whole(self):
        return WHOLE

    def added(self, one, other):
        return grain_plus(one, other)

    def taken(self, one, ratio):
        return grain_scaled(one, ratio)

    def products(self, firsts, seconds):
        return grain_products(firsts, seconds)


class Plan:
    """How the series of some polys are made, letter by letter.

    `pairs` tells of each product the row and the letter of which it is made; `sums` of each poly
    the tuples (row, ratio) of its terms, the row None of a term without letters.
    """

    def __init__(self, polys):
        self.letters = len(polys)
        self.pairs = []
        self.places = {}
        self.sums = []
        for poly in polys:
            self.sums.append([(self.row_of(exponents), ratio) for exponents, ratio in poly])

    def row_of(self, exponents):
        """The row of a product of letters. Those with a like beginning share it."""
        chain = ()
        row = None
        for position, many in enumerate(exponents):
            for _ in range(many):
                chain = chain + (position,)
                row = position if row is None else self.row_behind(chain, row, position)
        return row

    def row_behind(self, chain, row, position):
        if chain not in self.places:
            self.places[chain] = self.letters + len(self.pairs)
            self.pairs.append((row, position))
        return self.places[chain]


def _poly_number(parts, rows, k, way, constant):
    """Number k of a poly's series; constant is that of a term that is 1."""
    total = way.nothing()
    for row, ratio in parts:
        number = constant if row is None else rows[row][k]
        total = way.added(total, way.taken(number, ratio))
    return total


def _put_products(plan, rows, way):
    """One more number of each product; all rows ahead of it have one more already."""
    for at, (row, position) in enumerate(plan.pairs):
        number = way.products(rows[row], rows[position][::-1])
        rows[plan.letters + at].append(number)


def _put_letters(plan, rows, k, way, constant):
    """Number k + 1 of each letter."""
    numbers = [_poly_number(parts, rows, k, way, constant) for parts in plan.sums]
    for position, number in enumerate(numbers):
        rows[position].append(way.taken(number, (1, k + 1)))


def _first_rows(plan, begins):
    return [[begin] for begin in begins] + [[] for _ in plan.pairs]


def letter_series(polys, begins, many, way):
    """For each letter its first so many coefficients, number 0 being given."""
    plan = Plan(polys)
    rows = _first_rows(plan, begins)
    for k in range(many - 1):
        constant = way.whole() if k == 0 else way.nothing()
        _put_products(plan, rows, way)
        _put_letters(plan, rows, k, way, constant)
    return rows[:plan.letters]


def _put_slope_products(plan, rows, slopes, way):
    """One more number of the slope of each product, by one start."""
    for at, (row, position) in enumerate(plan.pairs):
        firsts = rows[row] + slopes[row]
        seconds = slopes[position][::-1] + rows[position][::-1]
        slopes[plan.letters + at].append(way.products(firsts, seconds))


def start_slopes(polys, begins, many, way):
    """For each start the rows of the letters' slopes by it, each with so many numbers."""
    plan = Plan(polys)
    rows = _first_rows(plan, begins)
    starts = range(plan.letters)
    by_start = []
    for j in starts:
        by_start.append(_first_rows(plan, [way.whole() if i == j else way.nothing() for i in starts]))
    for k in range(many - 1):
        constant = way.whole() if k == 0 else way.nothing()
        _put_products(plan, rows, way)
        for slopes in by_start:
            _put_slope_products(plan, rows, slopes, way)
            _put_letters(plan, slopes, k, way, way.nothing())
        _put_letters(plan, rows, k, way, constant)
    return [slopes[:plan.letters] for slopes in by_start]
