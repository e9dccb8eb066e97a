"""[34], [37]: signs and their papers."""

import unittest
from random import Random

from tests.reference import some_interval, some_poly
from tests.support import BOXES, MOST, ONE, OTHERS, POLY, check_calls, counts_wrong, refuses, too_many
from tests.test_corners import WIDE, WIDER
from truecourse.boxes import split_box
from truecourse.corners import corner_numbers
from truecourse.errors import InvalidBox, InvalidRoom, InvalidWord
from truecourse.ranges import best_range
from truecourse.signs import is_sign_paper, sign_on

LEAF = ("leaf",)
UNIT = ((0, ONE),)
X = (((1,), (1, 1)),)
BOX = (InvalidBox, BOXES + [((0, 1),), ((0, 1),) * 3])
XY = (((0, 1), (1, 1)), ((1, 0), (1, 1)))
WORDS = (InvalidWord, OTHERS + ["", "Above", "on", 3, ("above",), ["above"]])


def chain(deep):
    """A paper in which so many parts stand one in the other."""
    paper = LEAF
    for _ in range(deep - 1):
        paper = ("cut", 0, paper, LEAF)
    return paper


def bush(leaves):
    """A flat paper with so many leaves."""
    if leaves == 1:
        return LEAF
    return ("cut", 0, bush(leaves // 2), bush(leaves - leaves // 2))


def parts_and_depth(paper):
    if paper == LEAF:
        return (1, 1)
    one, other = parts_and_depth(paper[2]), parts_and_depth(paper[3])
    return (1 + one[0] + other[0], 1 + max(one[1], other[1]))


def leaf_holds(poly, box, word):
    """By the words of the document."""
    low, high = best_range(poly, box)
    if low > 0 or high < 0:
        return low > 0 if word == "above" else high < 0
    numbers = [number for number, _ in corner_numbers(poly, box)]
    return min(numbers) > 0 if word == "above" else max(numbers) < 0


def holds(poly, box, word, paper):
    if paper == LEAF:
        return leaf_holds(poly, box, word)
    pieces = split_box(box, paper[1])
    return holds(poly, pieces[0], word, paper[2]) and holds(poly, pieces[1], word, paper[3])


class TestPapers(unittest.TestCase):
    def test_errors(self):
        value = ("value", LEAF, (None, []))
        check_calls(self, is_sign_paper, [
            ("poly", XY, POLY), ("box", ((1, 2), (2, 3)), BOX), ("word", "above", WORDS), value])
        room = ("room", 9, (InvalidRoom, counts_wrong(0, 199)))
        check_calls(self, sign_on, [("poly", XY, POLY), ("box", ((1, 2), (2, 3)), BOX), room])

    def test_ends_count_too(self):
        for box, above, below in [((1, 5), True, False), ((0, 5), False, False),
                                  ((-5, -1), False, True), ((-5, 0), False, False)]:
            self.assertIs(is_sign_paper(X, (box,), "above", LEAF), above)
            self.assertIs(is_sign_paper(X, (box,), "below", LEAF), below)
        self.assertIs(is_sign_paper((), UNIT, "above", LEAF), False)

    def test_forms(self):
        box = ((1, ONE), (1, ONE))
        good = [LEAF, ("cut", 0, LEAF, LEAF), ("cut", 1, ("cut", 0, LEAF, LEAF), LEAF)]
        for paper in good:
            self.assertIs(is_sign_paper(XY, box, "above", paper), True)
        bad = OTHERS + [
            3, "leaf", (), ["leaf"], ("leaf", None), ("leaf", LEAF), ("cut",), ("cut", 0, LEAF),
            ("cut", 2, LEAF, LEAF), ("cut", -1, LEAF, LEAF), ("cut", True, LEAF, LEAF),
            ("cut", False, LEAF, LEAF), ("cut", None, LEAF, LEAF), ("cut", 0, LEAF, None),
            ("cut", 0, None, LEAF), ["cut", 0, LEAF, LEAF], ("cut", 0, LEAF, LEAF, LEAF),
            ("Leaf",), (None,), ("cut", "0", LEAF, LEAF), ("cut", 0, ["leaf"], LEAF)]
        for paper in bad:
            self.assertIs(is_sign_paper(XY, box, "above", paper), False, paper)
        self.assertIs(is_sign_paper((((0,), (1, 1)),), UNIT, "above", ("cut", 0, LEAF, LEAF)), True)

    def test_sizes(self):
        one = (((0,), (1, 1)),)
        for paper, told in [(chain(40), True), (chain(41), False), (bush(200), True),
                            (bush(201), False)]:
            self.assertIs(is_sign_paper(one, UNIT, "above", paper), told)
        self.assertEqual(parts_and_depth(bush(200))[0], 399)
        mirrored = LEAF
        for _ in range(39):
            mirrored = ("cut", 0, LEAF, mirrored)
        self.assertIs(is_sign_paper(one, UNIT, "above", mirrored), True)
        self.assertIs(is_sign_paper(one, UNIT, "above", ("cut", 0, LEAF, mirrored)), False)

    def test_shared_parts(self):
        # As a tree this paper has more parts than could ever be gone through.
        paper = LEAF
        for _ in range(39):
            paper = ("cut", 0, paper, paper)
        self.assertIs(is_sign_paper((((0,), (1, 1)),), UNIT, "above", paper), False)

    def test_pieces(self):
        # x * x - x + 1/4 + 1/64 comes close to 0 at 1/2 only.
        poly = (((0,), (17, 64)), ((1,), (-1, 1)), ((2,), (1, 1)))
        self.assertIs(is_sign_paper(poly, UNIT, "above", LEAF), False)
        cut = ("cut", 0, LEAF, LEAF)
        self.assertIs(is_sign_paper(poly, UNIT, "above", cut), True)
        line = (((0,), (-1, 2)), ((1,), (1, 1)))
        deep = ("cut", 0, cut, LEAF)
        for box, paper in [(((0, 3 * ONE),), deep), (((ONE, 3 * ONE),), cut)]:
            self.assertIs(is_sign_paper(line, box, "above", paper), holds(line, box, "above", paper))

    def test_each_part_has_its_piece(self):
        # The piece from 0 to 1 needs a cut, the one beside it does not.
        poly = (((0,), (17, 64)), ((1,), (-1, 1)), ((2,), (1, 1)))
        cut = ("cut", 0, LEAF, LEAF)
        first, second = ((0, 2 * ONE),), ((-ONE, ONE),)
        for box, paper, told in [
                (first, ("cut", 0, cut, LEAF), True), (first, ("cut", 0, LEAF, cut), False),
                (second, ("cut", 0, LEAF, cut), True), (second, ("cut", 0, cut, LEAF), False)]:
            self.assertIs(is_sign_paper(poly, box, "above", paper), told)
            self.assertIs(holds(poly, box, "above", paper), told)

    def test_corners_only_where_needed(self):
        box = ((ONE, 2 * ONE),) * 4
        self.assertIs(is_sign_paper(WIDER, box, "above", LEAF), True)
        self.assertIs(is_sign_paper(WIDER, box, "below", LEAF), False)
        self.assertEqual(sign_on(WIDER, box, 0), ("above", LEAF))

    def test_many_corners(self):
        high = (((0, 0, 0, 0), (1, 1)),) + WIDER
        self.assertIs(is_sign_paper(high, ((0, ONE),) * 4, "above", LEAF), True)
        self.assertIs(is_sign_paper(high, ((0, ONE),) * 4, "below", LEAF), False)
        self.assertEqual(sign_on(high, ((0, ONE),) * 4, 9), ("above", LEAF))
        across = ((-ONE, ONE),) * 4
        too_many(is_sign_paper, "corners", 400, WIDER, across, "above", LEAF)
        too_many(sign_on, "corners", 400, WIDER, across, 9)
        self.assertIs(is_sign_paper(WIDE, across, "above", LEAF), False)
        # A wrong form is seen ahead of all leaves, a leaf that does not hold ahead of the next one.
        self.assertIs(is_sign_paper(WIDER, across, "above", ("cut", 0, LEAF, None)), False)
        lower = (((0, 0, 0, 0), (-5, 1)),) + WIDER
        sloping = ((-9 * ONE, 9 * ONE),) + ((0, ONE),) * 3
        line = (((0, 0, 0, 0), (-1, 1)),) + WIDER[:3] + (((1, 0, 0, 0), (1, 1)), ((4, 0, 0, 0), (1, 1)))
        cut = ("cut", 0, LEAF, LEAF)
        self.assertIs(is_sign_paper(lower, ((0, ONE),) * 4, "above", LEAF), False)
        too_many(is_sign_paper, "corners", 400, line, sloping, "above", cut)

    def test_first_leaf_ends_it(self):
        # The first piece lies below 0; over the second one corner numbers would be needed.
        poly = (((0, 0, 0, 0), (-1, 1)), ((0, 0, 0, 3), (1, 1)), ((0, 0, 4, 0), (1, 1)),
                ((0, 4, 0, 0), (1, 1)), ((1, 0, 0, 0), (4, 1)), ((4, 0, 0, 0), (1, 2 ** 30)))
        box = ((-2 * ONE, 2 * ONE),) + ((0, ONE // 8),) * 3
        low, high = split_box(box, 0)
        cut = ("cut", 0, LEAF, LEAF)
        second = ("cut", 0, ("cut", 0, LEAF, LEAF), LEAF)
        too_many(is_sign_paper, "corners", 400, poly, high, "above", LEAF)
        too_many(is_sign_paper, "corners", 400, poly, box, "below", cut)
        self.assertIs(is_sign_paper(poly, box, "above", cut), False)
        self.assertIs(is_sign_paper(poly, box, "above", second), False)

    def test_grains(self):
        square = (((2,), (1, 1)),)
        box = ((2 ** 55, 2 ** 55 + 1),)
        too_many(is_sign_paper, "grains", MOST, square, box, "above", LEAF)
        too_many(sign_on, "grains", MOST, square, box, 3)


class TestSignOn(unittest.TestCase):
    def check(self, poly, box, room):
        told = sign_on(poly, box, room)
        if told is None:
            for word in ("above", "below"):
                self.assertIs(leaf_holds(poly, box, word), False)
            return None
        word, paper = told
        self.assertIs(is_sign_paper(poly, box, word, paper), True)
        parts, depth = parts_and_depth(paper)
        self.assertTrue(parts <= 2 * room + 1 and depth <= 40)
        return word

    def test_leaves(self):
        self.assertEqual(sign_on(X, ((1, 5),), 0), ("above", LEAF))
        self.assertEqual(sign_on(X, ((-5, -1),), 199), ("below", LEAF))
        self.assertIs(sign_on(X, ((0, 5),), 199), None)
        self.assertIs(sign_on((), ((0, 5),), 199), None)
        # Corner numbers alone show this one.
        poly = (((0,), (3, 8)), ((1,), (-1, 1)), ((2,), (1, 1)))
        self.assertEqual(self.check(poly, UNIT, 199), "above")

    def test_cuts_are_found(self):
        poly = (((0,), (65, 256)), ((1,), (-1, 1)), ((2,), (1, 1)))
        self.assertIs(leaf_holds(poly, UNIT, "above"), False)
        self.assertEqual(self.check(poly, UNIT, 199), "above")
        self.assertIs(sign_on(poly, UNIT, 0), None)
        turned = tuple((e, (-n, d)) for e, (n, d) in poly)
        self.assertEqual(self.check(turned, UNIT, 199), "below")
        two = (((0, 0), (1, 20)), ((0, 2), (1, 1)), ((1, 1), (-2, 1)), ((2, 0), (1, 1)))
        self.assertEqual(self.check(two, ((0, ONE), (0, ONE)), 199), "above")

    def test_room(self):
        # Cuts are needed all along the line x = y.
        poly = (((0, 0), (1, 40)), ((0, 2), (1, 1)), ((1, 1), (-2, 1)), ((2, 0), (1, 1)))
        box = ((0, ONE), (0, ONE))
        needed = (parts_and_depth(sign_on(poly, box, 199)[1])[0] - 1) // 2
        self.assertTrue(2 < needed < 199)
        for room in range(needed + 2):
            self.check(poly, box, room)
        self.assertIs(sign_on(poly, box, needed) is None, False)

    def test_depth(self):
        # The closer to 0 the poly comes, the deeper the cuts; they may not go on for ever.
        seen = set()
        for power in range(20, 100, 4):
            poly = (((0,), (2 ** power + 9, 9 * 2 ** power)), ((1,), (-2, 3)), ((2,), (1, 1)))
            seen.add(self.check(poly, ((-2 ** 54, 2 ** 54),), 199))
        self.assertEqual(seen, {"above", None})

    def test_many(self):
        random = Random(11)
        for k in range(80):
            letters = 1 + k % 3
            poly = some_poly(random, letters, 4, 4)
            box = tuple(some_interval(random, random.choice([3, ONE])) for _ in range(letters))
            self.check(poly, box, random.choice([0, 1, 5, 30]))

    def test_judge_goes_by_the_words(self):
        random = Random(12)
        for k in range(80):
            letters = 1 + k % 2
            poly = some_poly(random, letters, 4, 3)
            box = tuple(some_interval(random, 2 * ONE) for _ in range(letters))
            paper = LEAF
            for _ in range(random.randint(0, 3)):
                paper = ("cut", random.randrange(letters), paper, LEAF)
            for word in ("above", "below"):
                self.assertIs(is_sign_paper(poly, box, word, paper), holds(poly, box, word, paper))
