"""[115], [116]: safe boxes and their papers."""

import unittest
from fractions import Fraction
from random import Random

from tests.courses import FALLS, GROWS, KNOWN, SPIRALS, SPREADS, STILL, TURNS, lies_in, starts, system
from tests.reference import some_interval, some_poly
from tests.support import BOXES, MOST, ONE, OTHERS, SYSTEM, check_calls, counts_wrong, refuses, too_many
from tests.test_signs import bush, chain, parts_and_depth
from truecourse.boxes import box_within, split_box
from truecourse.corners import corner_range
from truecourse.errors import InvalidBox, InvalidRoom, TooMany
from truecourse.polys import poly_plus, poly_scaled
from truecourse.polytexts import parse_poly
from truecourse.ranges import best_range
from truecourse.ratios import ratio
from truecourse.safe import is_safe, safe_around, safe_paper

LEAF = ("leaf",)
PAIR = (LEAF, LEAF)
FIVE = ((-3, 5),)
BOX = (InvalidBox, BOXES + [((0, 1),) * 2])
ROOM = (InvalidRoom, counts_wrong(0, 60))


def told_by(names, *texts):
    return ("system", tuple(names), tuple(parse_poly(text, list(names)) for text in texts))


def shows(poly, box, tree, is_low):
    """By the words of the document, of a tree that is one."""
    if tree[0] == "cut":
        pieces = split_box(box, tree[1])
        return shows(poly, pieces[0], tree[2], is_low) and shows(poly, pieces[1], tree[3], is_low)
    found = [best_range(poly, box)]
    try:
        found.append(corner_range(poly, box))
    except TooMany:
        pass
    return any(low >= 0 if is_low else high <= 0 for low, high in found)


def face(box, k, end):
    return box[:k] + ((box[k][end],) * 2,) + box[k + 1:]


def is_shown(own, box, paper):
    return all(
        shows(poly, face(box, k, 0), paper[k][0], True) and shows(poly, face(box, k, 1), paper[k][1], False)
        for k, poly in enumerate(own[2]))


class TestPapers(unittest.TestCase):
    def test_errors(self):
        check_calls(self, is_safe, [("system", FALLS, SYSTEM), ("box", FIVE, BOX), ("value", (PAIR,), (None, []))])
        for function in (safe_paper, safe_around):
            check_calls(self, function, [("system", FALLS, SYSTEM), ("box", FIVE, BOX), ("room", 4, ROOM)])
            refuses(function, InvalidRoom, {"value": 61}, BURST_DOWN, FAR, 61)

    def test_forms(self):
        self.assertIs(is_safe(FALLS, FIVE, (PAIR,)), True)
        self.assertIs(is_safe(FALLS, FIVE, ((LEAF, ("cut", 0, LEAF, LEAF)),)), True)
        for tree in OTHERS + [3, "leaf", (), ["leaf"], ("leaf", 1), ("Leaf",), ("cut",), ("cut", 0, LEAF), ("cut", 1, LEAF, LEAF),
                              ("cut", -1, LEAF, LEAF), ("cut", False, LEAF, LEAF), ("cut", 0, LEAF, None), ("cut", 0, None, LEAF),
                              ("cut", 0, LEAF, LEAF, LEAF), ["cut", 0, LEAF, LEAF], ("cut", 0, LEAF, ("cut", 1, LEAF, LEAF)), (LEAF,)]:
            for pair in ((tree, LEAF), (LEAF, tree)):
                self.assertIs(is_safe(FALLS, FIVE, (pair,)), False, pair)
        for value in OTHERS + [3, "x", (), PAIR, [PAIR], ([LEAF, LEAF],), ((LEAF,),), ((LEAF, LEAF, LEAF),), (PAIR, PAIR), (None,)]:
            self.assertIs(is_safe(FALLS, FIVE, value), False, value)

    def test_ends_that_are_nothing(self):
        # On a low face no value may be below 0, on a high one none above 0; 0 is neither.
        for box, told in [(((0, 0),), True), (((0, 5),), True), (((-5, 0),), True), (((1, 5),), False), (((-5, -1),), False)]:
            self.assertIs(is_safe(FALLS, box, (PAIR,)), told, box)
        for box, told in [(((0, 0),), True), (((0, 5),), False), (((-5, 0),), False), (((1, 5),), False), (((-5, 5),), False)]:
            self.assertIs(is_safe(GROWS, box, (PAIR,)), told, box)
        self.assertIs(is_safe(STILL, ((-7, 9),), (PAIR,)), True)

    def test_sides(self):
        for texts, box, told in [
                (("y", "-x"), ((-5, 5), (-5, 5)), False), (("-x + y", "-y + x"), ((-5, 5), (-5, 5)), True),
                (("-x + y", "-y + x"), ((-5, 5), (-5, 6)), False), (("-x", "0"), ((-5, 5), (7, 9)), True),
                (("1 - x", "x - y"), ((0, ONE), (0, ONE)), True), (("1 - x", "x - y"), ((0, ONE), (1, ONE)), False),
                (("1 - x", "x - y"), ((0, ONE), (0, ONE - 1)), False), (("1 - x", "x - y"), ((0, ONE - 1), (0, ONE)), False)]:
            self.assertIs(is_safe(told_by("xy", *texts), box, (PAIR, PAIR)), told, (texts, box))

    def test_corners(self):
        """At the face (1 - y / 2)^2 stands, whose best range goes below 0, but no corner number."""
        low = told_by("xy", "10 - 9*x - y + 1/4*y^2", "0")
        high = told_by("xy", "17 - 9*x + y - 1/4*y^2", "0")
        half, whole = ((ONE, 2 * ONE), (0, 2 * ONE)), ((ONE, 2 * ONE), (0, 4 * ONE))
        self.assertTrue(best_range(low[2][0], face(half, 0, 0))[0] < 0)
        self.assertEqual(corner_range(low[2][0], face(half, 0, 0))[0], 0)
        self.assertTrue(best_range(high[2][0], face(half, 0, 1))[1] > 0)
        self.assertEqual(corner_range(high[2][0], face(half, 0, 1))[1], 0)
        cut = ("cut", 1, LEAF, LEAF)
        for own, pair in ((low, (cut, LEAF)), (high, (LEAF, cut))):
            self.assertIs(is_safe(own, half, (PAIR, PAIR)), True)
            self.assertIs(is_safe(own, whole, (PAIR, PAIR)), False)
            self.assertIs(is_safe(own, whole, (pair, PAIR)), True)
            self.assertIs(is_safe(own, whole, (pair[::-1], PAIR)), False)
            # Cut along the face itself it stays as it was.
            self.assertIs(is_safe(own, whole, ((("cut", 0, pair[0], pair[0]), ("cut", 0, pair[1], pair[1])), PAIR)), True)

    def test_many_corners(self):
        """Where there are 400 corner numbers at most these show it, where there are more they do not."""
        box = ((ONE, 2 * ONE), (0, 2 * ONE), (0, ONE), (0, ONE))
        for text, many in [("b^4 + a^4*c^3 + d^3", 400), ("b^8 + c^8 + a^4*c", 405), ("b^4 + a^4*c^3 + d^4", 500), ("b^3 + a^4*c^3 + d^3", 320)]:
            own = told_by("abcd", "1001 - 1000*a - b + 1/4*b^2 + " + text, "0", "0", "0")
            degrees = [max(e[k] for e, _ in own[2][0]) + 1 for k in range(4)]
            self.assertEqual(degrees[0] * degrees[1] * degrees[2] * degrees[3], many)
            self.assertTrue(best_range(own[2][0], face(box, 0, 0))[0] < 0)
            self.assertIs(is_safe(own, box, (PAIR,) * 4), many <= 400, text)
            if many <= 400:
                self.assertEqual(safe_paper(own, box, 0), (PAIR,) * 4)
            else:
                self.assertIsNone(safe_paper(own, box, 0))

    def test_best_range_where_there_are_many_corners(self):
        # By the best range a leaf shows it, however many corner numbers there would be.
        box = ((ONE, 2 * ONE), (0, ONE), (0, ONE))
        own = told_by("abc", "1000 - 1000*a + b^8 + c^8 + a^4*c", "0", "0")
        too_many(corner_range, "corners", 400, own[2][0], face(box, 0, 0))
        self.assertIs(is_safe(own, box, (PAIR,) * 3), True)
        self.assertEqual(safe_paper(own, box, 0), (PAIR,) * 3)

    def test_boxes_of_a_grain(self):
        # y^2 - 9/10 g y + g^2 / 8, g a grain: nowhere seen to be below 0, and no cut would help.
        own = ("system", ("x", "y"), (tuple(sorted([
            ((0, 0), (99 * 2 ** 83 + 1, 2 ** 83)), ((1, 0), (-99, 1)), ((0, 2), (1, 1)), ((0, 1), (-9, 10 * ONE))])), ()))
        own = own[:2] + ((tuple((e, ratio(*number)) for e, number in own[2][0]), ()),)
        for room in (0, 9, 60):
            self.assertIsNone(safe_paper(own, ((ONE, 2 * ONE), (0, 1)), room))

    def test_nodes_and_depth(self):
        for tree in (bush(64), bush(65), chain(12), chain(13)):
            nodes, deep = parts_and_depth(tree)
            told = nodes <= 127 and deep <= 12
            self.assertIs(is_safe(FALLS, FIVE, ((tree, LEAF),)), told, (nodes, deep))
            self.assertIs(is_safe(FALLS, FIVE, ((LEAF, tree),)), told, (nodes, deep))
        self.assertEqual([parts_and_depth(tree) for tree in (bush(64), chain(12))][0][0], 127)
        self.assertEqual(parts_and_depth(chain(12))[1], 12)

    def test_grains(self):
        self.assertIs(is_safe(BURST_DOWN, FAR, (PAIR,)), False)
        too_many(safe_paper, "grains", MOST, BURST_DOWN, FAR, 4)
        too_many(safe_around, "grains", MOST, BURST_DOWN, FAR, 4)
        self.assertIs(is_safe(BURST_DOWN, ((0, 2 ** 55),), (PAIR,)), True)

    def test_judge_goes_by_the_words(self):
        random = Random(116)
        trees = [LEAF, ("cut", 0, LEAF, LEAF), ("cut", 1, LEAF, LEAF), ("cut", 1, ("cut", 0, LEAF, LEAF), LEAF)]
        told = []
        for _ in range(150):
            polys = tuple(some_poly(random, 2, 3, 3) for _ in range(2))
            own = ("system", ("x", "y"), polys)
            box = tuple(some_interval(random, 2 * ONE) for _ in range(2))
            paper = tuple(tuple(random.choice(trees) for _ in range(2)) for _ in range(2))
            told.append(is_shown(own, box, paper))
            self.assertIs(is_safe(own, box, paper), told[-1])
        self.assertTrue(any(told) and not all(told))


BURST_DOWN = system("x", [((2,), (-1, 1))])
FAR = ((0, 2 ** 60),)


class TestSearch(unittest.TestCase):
    def check(self, own, box, room):
        told = safe_paper(own, box, room)
        if told is not None:
            self.assertIs(is_safe(own, box, told), True)
            for pair in told:
                for tree in pair:
                    nodes, deep = parts_and_depth(tree)
                    self.assertTrue(nodes <= 2 * room + 1 and nodes <= 127 and deep <= 12)
        return told

    def test_leaves(self):
        random = Random(117)
        found = 0
        for _ in range(150):
            more = [some_poly(random, 2, 2, 2) for _ in range(2)]
            own = ("system", ("x", "y"), tuple(
                poly_plus(poly_scaled(poly, (1, 9)), parse_poly(text, ["x", "y"])) for poly, text in zip(more, ("-x", "-y"))))
            box = tuple(some_interval(random, 3 * ONE) for _ in range(2))
            room = random.choice([0, 0, 1, 5])
            told = self.check(own, box, room)
            if is_safe(own, box, (PAIR, PAIR)):
                found += 1
                self.assertEqual(told, (PAIR, PAIR))
            elif room == 0:
                self.assertIsNone(told)
        self.assertGreater(found, 5)

    def test_cuts(self):
        for text in ("10 - 9*x - y + 1/4*y^2", "10 - 9*x - y + 1/3*y^2"):
            own, box = told_by("xy", text, "0"), ((ONE, 2 * ONE), (0, 4 * ONE))
            self.assertIsNone(self.check(own, box, 0))
            for room in (1, 9, 60):
                told = self.check(own, box, room)
                self.assertEqual(told[0][0], ("cut", 1, LEAF, LEAF))
        # With one cut less than the tree has none is found; with more it stays as it is.
        for text, many in [("1/90 + y^2 - y + 1/4", 3), ("1/3 + y^2 - 2*y*z + z^2", 13), ("1/20 + y^2 - 2*y*z + z^2", 45)]:
            own, box = told_by("xyz", "99 - 99*x + " + text, "0", "0"), ((ONE, 2 * ONE), (0, 4 * ONE), (0, 4 * ONE))
            found = [self.check(own, box, room) for room in range(61)]
            self.assertEqual([told is None for told in found], [True] * many + [False] * (61 - many))
            self.assertEqual(found[many:], [found[many]] * (61 - many))
            self.assertEqual(parts_and_depth(found[many][0][0])[0], 2 * many + 1)
        # Trees that would have to be 13 deep are not told, however few cuts they have.
        for k, deep in [(10, 7), (18, 11), (19, 12), (20, 12), (21, None), (30, None)]:
            own, box = told_by("xy", f"99 - 99*x + y^2 - 2/3*y + 1/9 + 1/{2 ** k}", "0"), ((ONE, 2 * ONE), (0, 4 * ONE))
            told = self.check(own, box, 60)
            self.assertEqual(None if told is None else parts_and_depth(told[0][0])[1], deep)
        # Nearer to 0, more cuts are needed.
        own = told_by("xy", "10 - 9*x - 19/10*y + 19/10*y^2 - 1/2*y^4 + y^5", "0")
        told = self.check(own, ((ONE, 2 * ONE), (0, ONE)), 60)
        self.assertIsNotNone(told)

    def test_none(self):
        for own, box in [(GROWS, ((-3, 5),)), (TURNS, ((-ONE, ONE),) * 2), (FALLS, ((1, 5),))]:
            for room in (0, 3, 60):
                self.assertIsNone(safe_paper(own, box, room))

    def test_around(self):
        for own, box in [
                (FALLS, ((ONE, 2 * ONE),)), (FALLS, ((1, 5),)), (FALLS, ((-ONE, ONE),)), (SPREADS, ((ONE, ONE), (ONE // 4, ONE // 3))),
                (told_by("xy", "-x + y", "-y"), ((-ONE, ONE),) * 2), (told_by("x", "5 - x"), ((0, ONE),)),
                (told_by("x", "-x + x^3"), ((ONE // 5, ONE // 4),)), (STILL, ((3, 9),))]:
            told = safe_around(own, box, 40)
            self.assertIsInstance(told, tuple)
            around, paper = told
            self.assertIs(box_within(box, around), True)
            self.assertIs(is_safe(own, around, paper), True)

    def test_around_itself(self):
        for room in (0, 7):
            self.assertEqual(safe_around(FALLS, FIVE, room), (FIVE, (PAIR,)))
        # Without room nothing but the box itself is tried.
        self.assertIsNone(safe_around(FALLS, ((1, 5),), 0))
        for own, box in [(GROWS, ((0, ONE),)), (TURNS, ((0, ONE),) * 2), (told_by("x", "1"), ((0, 0),))]:
            self.assertIsNone(safe_around(own, box, 60))

    def test_around_beyond(self):
        # The box itself is well, but it can be moved out nowhere without going beyond.
        own = told_by("x", "1 + x^8")
        self.assertIsNone(safe_around(own, ((0, 2 ** 42),), 60))
        self.assertIsNone(safe_around(told_by("x", "1"), ((0, MOST),), 60))


class TestCourses(unittest.TestCase):
    def test_no_course_leaves(self):
        """[115]: the course from each start in a safe box stays in it, at all times."""
        random = Random(118)
        seen = 0
        for name, boxes in [("falls", [((-ONE, 2 * ONE),)]), ("still", [((3, 9),)]), ("spreads", [((ONE, 2 * ONE), (0, ONE)), ((0, ONE), (ONE // 2, ONE))]),
                            ("rated", [((0, 2 * ONE), (-ONE, ONE))]), ("turns", [((0, 0), (0, 0))]), ("bursts", [((-ONE, 0),)]),
                            ("spirals", [((-ONE, ONE), (-ONE, ONE)), ((0, 0), (0, 0))])]:
            own, course = KNOWN[name]
            for box in boxes:
                paper = safe_paper(own, box, 20)
                if paper is None:
                    continue
                seen += 1
                for point in starts(box, random, 6):
                    for time in (Fraction(1, 7), Fraction(1), Fraction(5), Fraction(random.randint(1, 99), 10)):
                        row = course(point, time)
                        self.assertIsNotNone(row)
                        self.assertTrue(lies_in(row, box), (name, point, time))
        self.assertGreaterEqual(seen, 7)

    def test_spirals(self):
        # On the face x = 1 the slope is - 1/2 - 2 y, above 0 where y is below - 1/4.
        for low, told in [(-ONE, False), (-ONE // 4 - 1, False), (-ONE // 4, True), (0, True)]:
            self.assertIs(shows(SPIRALS[2][0], ((ONE, ONE), (low, ONE)), LEAF, False), told)
        self.assertIsNone(safe_paper(SPIRALS, ((-ONE, ONE), (-ONE, ONE)), 60))
