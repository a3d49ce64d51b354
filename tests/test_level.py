"""level: which of two numbers is the greater one, and whether two points are one."""

import unittest

from rulercircle.desk import kind, level
from tests.helper import LARGEST, Sheet, ask, two_of_each

LESS, SAME, GREATER = [0], [1], [2]
APART, ONE = [0], [1]


class Numbers(unittest.TestCase):
    def less(self, sheet, i, j):
        self.assertEqual(ask(level, i, j, sheet.p), LESS)
        self.assertEqual(ask(level, j, i, sheet.p), GREATER)

    def same(self, sheet, i, j):
        self.assertEqual(ask(level, i, j, sheet.p), SAME)
        self.assertEqual(ask(level, j, i, sheet.p), SAME)

    def test_told_numbers(self):
        row = (-9999, -2, -1, 0, 1, 2, 9998, 9999)
        sheet = Sheet()
        steps = [sheet.number(v) for v in row]
        for first, i in zip(row, steps):
            for second, j in zip(row, steps):
                wanted = LESS if first < second else GREATER if first > second else SAME
                self.assertEqual(ask(level, i, j, sheet.p), wanted)

    def test_told_twice(self):
        p = [0, 0, 0, 7, 0, 0, 0, 7, 0, 0, 0, -7]
        self.assertEqual(ask(level, 0, 1, p), SAME)
        self.assertEqual(ask(level, 0, 2, p), GREATER)
        self.assertEqual(ask(level, 2, 1, p), LESS)

    def test_same_step(self):
        sheet = Sheet()
        zero = sheet.number(0)
        root = sheet.root_of(2)
        last = sheet.over(sheet.number(-5), root)
        for i in (zero, root, last):
            self.assertEqual(ask(level, i, i, sheet.p), SAME)

    def test_quotients(self):
        """Also by numbers below 0."""
        for first, second, wanted in (
            ((1, 2), (2, 4), SAME),
            ((1, -2), (-1, 2), SAME),
            ((-1, -2), (1, 2), SAME),
            ((0, -3), (0, 5), SAME),
            ((1, -2), (1, 2), LESS),
            ((1, -2), (1, -3), LESS),
            ((-1, 2), (-1, -9999), LESS),
            ((9997, 9998), (9998, 9999), LESS),
            ((-9998, 9999), (9997, -9998), LESS),
        ):
            sheet = Sheet()
            i, j = [sheet.over(sheet.number(top), sheet.number(bottom)) for top, bottom in (first, second)]
            (self.same if wanted == SAME else self.less)(sheet, i, j)

    def test_roots(self):
        sheet = Sheet()
        two, three = sheet.root_of(2), sheet.root_of(3)
        self.less(sheet, two, three)
        self.less(sheet, sheet.number(1), two)
        self.less(sheet, two, sheet.number(2))
        self.less(sheet, sheet.minus(sheet.number(0), three), sheet.minus(sheet.number(0), two))

    def test_product_of_roots(self):
        sheet = Sheet()
        product = sheet.times(sheet.root_of(2), sheet.root_of(3))
        self.same(sheet, product, sheet.root_of(6))
        sheet = Sheet()
        product = sheet.times(sheet.root_of(2), sheet.root_of(3))
        self.less(sheet, product, sheet.root(sheet.over(sheet.number(6001), sheet.number(1000))))

    def test_root_told_another_way(self):
        sheet = Sheet()
        one = sheet.number(1)
        root = sheet.root_of(2)
        self.same(sheet, sheet.over(one, sheet.minus(root, one)), sheet.plus(root, one))
        self.same(sheet, sheet.root_of(8), sheet.plus(root, root))
        self.same(sheet, sheet.root(sheet.over(one, sheet.number(2))), sheet.over(root, sheet.number(2)))

    def test_roots_within_roots(self):
        sheet = Sheet()
        two = sheet.number(2)
        root = sheet.root(two)
        nested = sheet.root(sheet.plus(sheet.number(3), sheet.times(two, root)))
        self.same(sheet, nested, sheet.plus(root, sheet.number(1)))
        self.less(sheet, root, nested)

    def test_sum_of_roots(self):
        """root 2 + root 3 is root (5 + 2 root 6), which needs a root above the others alone."""
        sheet = Sheet()
        total = sheet.plus(sheet.root_of(2), sheet.root_of(3))
        square = sheet.times(total, total)
        self.same(sheet, total, sheet.root(square))
        sheet = Sheet()
        six = sheet.root_of(6)
        nested = sheet.root(sheet.plus(sheet.number(5), sheet.plus(six, six)))
        two = sheet.root_of(2)
        three = sheet.over(six, two)
        self.same(sheet, nested, sheet.plus(two, three))

    def test_differing_by_very_little(self):
        """99 root 2 is just above 140; the difference to the 8th power is still no 0."""
        sheet = Sheet()
        many = sheet.times(sheet.number(99), sheet.root_of(2))
        self.less(sheet, sheet.number(140), many)
        small = sheet.minus(many, sheet.number(140))
        for _ in range(3):
            small = sheet.times(small, small)
        self.less(sheet, sheet.number(0), small)
        self.less(sheet, sheet.number(7), sheet.plus(small, sheet.number(7)))

    def test_differing_by_less_than_any_double_tells(self):
        """The 256th power of 17 - 12 root 2, below 1 / 10 ^ 390, put to a root."""
        sheet = Sheet()
        root = sheet.root_of(2)
        small = sheet.minus(sheet.number(17), sheet.times(sheet.number(12), root))
        for _ in range(7):
            small = sheet.times(small, small)
        self.less(sheet, root, sheet.plus(root, small))
        self.less(sheet, sheet.minus(root, small), root)
        self.less(sheet, sheet.number(0), small)

    def test_coordinates(self):
        """A point's x and y, against the same number told otherwise."""
        sheet = Sheet()
        first, second = sheet.point(0, 0), sheet.point(2, 0)
        apex = sheet.apex(first, second)
        self.same(sheet, sheet.x(apex), sheet.number(1))
        self.same(sheet, sheet.y(apex), sheet.root_of(3))
        self.same(sheet, sheet.x(second), sheet.number(2))
        self.less(sheet, sheet.number(1), sheet.y(apex))

    def test_distances(self):
        """All sides of the triangle are as long, and in a half circle stands a right angle."""
        sheet = Sheet()
        first, second = sheet.point(-1, 3), sheet.point(4, 1)
        apex = sheet.apex(first, second, 1)
        base = sheet.put(17, first, second)
        self.same(sheet, base, sheet.put(17, first, apex))
        self.same(sheet, base, sheet.put(17, apex, second))
        self.same(sheet, base, sheet.number(29))

    def test_many_small_ones(self):
        """Fractions of small numbers, and roots of them, in their order."""
        fractions = [(top, bottom) for top in range(-3, 4) for bottom in (-3, -2, -1, 1, 2, 3)]
        for first in fractions:
            for second in fractions:
                sheet = Sheet()
                i, j = [sheet.over(sheet.number(top), sheet.number(bottom)) for top, bottom in (first, second)]
                gap = (first[0] * second[1] - second[0] * first[1]) * (1 if first[1] * second[1] > 0 else -1)
                wanted = LESS if gap < 0 else GREATER if gap > 0 else SAME
                self.assertEqual(level(i, j, sheet.p), wanted)
                if first[0] * first[1] >= 0 and second[0] * second[1] >= 0:
                    i, j = sheet.root(i), sheet.root(j)
                    self.assertEqual(level(i, j, sheet.p), wanted)

    def test_greatest_weight(self):
        sheet = Sheet()
        heavy = sheet.heavy(8192)
        self.same(sheet, heavy, heavy)
        self.less(sheet, sheet.number(0), heavy)

    def test_roots_near_the_greatest_weight(self):
        """Three roots, one of another, of a quotient's 256th power are its 32nd; to that very little is put."""
        sheet = Sheet()
        powers = [sheet.over(sheet.number(9973), sheet.number(9967))]
        small = sheet.over(sheet.number(1), sheet.number(9999))
        for _ in range(8):
            powers.append(sheet.times(powers[-1], powers[-1]))
            small = sheet.times(small, small)
        root = powers[8]
        for power in (powers[7], powers[6], powers[5]):
            root = sheet.root(root)
            self.same(sheet, root, power)
        self.less(sheet, root, sheet.plus(powers[5], small))
        self.less(sheet, sheet.minus(powers[5], small), root)


class Points(unittest.TestCase):
    def one(self, sheet, i, j):
        self.assertEqual(ask(level, i, j, sheet.p), ONE)
        self.assertEqual(ask(level, j, i, sheet.p), ONE)

    def apart(self, sheet, i, j):
        self.assertEqual(ask(level, i, j, sheet.p), APART)
        self.assertEqual(ask(level, j, i, sheet.p), APART)

    def test_told_points(self):
        sheet = Sheet()
        point = sheet.point(3, 4)
        self.one(sheet, point, point)
        self.one(sheet, point, sheet.at(sheet.number(3), sheet.number(4)))
        for x, y in ((3, 5), (3, -4), (2, 4), (-3, 4), (4, 3), (0, 0)):
            self.apart(sheet, point, sheet.point(x, y))

    def test_over_other_bottoms(self):
        sheet = Sheet()
        half = sheet.over(sheet.number(1), sheet.number(2))
        same = sheet.over(sheet.number(-2), sheet.number(-4))
        third = sheet.over(sheet.number(1), sheet.number(3))
        point = sheet.at(half, third)
        self.one(sheet, point, sheet.at(same, third))
        self.apart(sheet, point, sheet.at(third, half))
        self.apart(sheet, point, sheet.at(half, half))
        self.apart(sheet, point, sheet.at(third, third))

    def test_middles(self):
        sheet = Sheet()
        first, second = sheet.point(1, 2), sheet.point(5, 8)
        self.one(sheet, sheet.middle(first, second), sheet.point(3, 5))
        self.one(sheet, sheet.middle(first, first), first)
        self.apart(sheet, sheet.middle(first, second), first)

    def test_apex_in_two_ways(self):
        sheet = Sheet()
        apex = sheet.apex(sheet.point(0, 0), sheet.point(2, 0))
        self.one(sheet, apex, sheet.at(sheet.number(1), sheet.root_of(3)))
        self.apart(sheet, apex, sheet.at(sheet.number(1), sheet.number(2)))

    def test_apex_nearly(self):
        """97 / 56 is above root 3 by less than one in ten thousand: x alike, y not."""
        sheet = Sheet()
        apex = sheet.apex(sheet.point(0, 0), sheet.point(2, 0))
        self.apart(sheet, apex, sheet.at(sheet.number(1), sheet.over(sheet.number(97), sheet.number(56))))

    def test_alike_in_one_coordinate_by_a_theorem(self):
        """Both meetings have one x (their chord stands upright), and others one y."""
        sheet = Sheet()
        first, second = sheet.point(0, 0), sheet.point(2, 0)
        self.apart(sheet, sheet.apex(first, second, 0), sheet.apex(first, second, 1))
        sheet = Sheet()
        line = sheet.line(sheet.point(0, 1), sheet.point(5, 1))
        circle = sheet.disc(sheet.point(0, 0), 3)
        self.apart(sheet, sheet.chord(line, circle, 0), sheet.chord(line, circle, 1))

    def test_crossing_in_two_ways(self):
        """The heights of a triangle, two by two, meet in one point."""
        sheet = Sheet()
        corners = [sheet.point(0, 0), sheet.point(4, 0), sheet.point(1, 3)]
        heights = sheet.heights(corners)
        meetings = [sheet.crossing(heights[k - 1], heights[k]) for k in range(3)]
        self.one(sheet, meetings[0], meetings[1])
        self.one(sheet, meetings[1], meetings[2])
        self.one(sheet, meetings[0], sheet.point(1, 1))

    def test_meeting_of_line_and_circle_in_two_ways(self):
        """Through (2, 0) goes the chord of two circles: on it each of them has the points where they meet."""
        for circle in (0, 1):
            for v in (0, 1):
                sheet = Sheet()
                circles = [sheet.disc(sheet.point(0, 0), 7), sheet.disc(sheet.point(3, 1), 5)]
                left, right = sheet.shared(*circles, 0), sheet.shared(*circles, 1)
                again = sheet.chord(sheet.line(sheet.point(2, 0), left), circles[circle], v)
                self.one(sheet, again, (right, left)[v])
                self.apart(sheet, again, (left, right)[v])

    def test_circles_told_in_the_other_order(self):
        sheet = Sheet()
        first, second = sheet.disc(sheet.point(0, 0), 7), sheet.disc(sheet.point(3, 1), 5)
        left = sheet.shared(first, second, 0)
        self.one(sheet, left, sheet.shared(second, first, 1))
        self.apart(sheet, left, sheet.shared(second, first, 0))

    def test_line_told_the_other_way_round(self):
        sheet = Sheet()
        first, second = sheet.point(-2, 1), sheet.point(3, 2)
        circle = sheet.disc(sheet.point(0, 0), 5)
        last = sheet.chord(sheet.line(first, second), circle, 1)
        back = sheet.line(second, first)
        self.one(sheet, last, sheet.chord(back, circle, 0))
        self.apart(sheet, last, sheet.chord(back, circle, 1))

    def test_line_touching(self):
        """The line x + y = 2 root 2 touches the circle of radius 2 in (root 2, root 2)."""
        sheet = Sheet()
        zero, far = sheet.number(0), sheet.root_of(8)
        line = sheet.line(sheet.at(far, zero), sheet.at(zero, far))
        circle = sheet.disc(sheet.at(zero, zero), 4)
        first, last = sheet.chord(line, circle, 0), sheet.chord(line, circle, 1)
        self.one(sheet, first, last)
        half = sheet.over(far, sheet.number(2))
        self.one(sheet, first, sheet.at(half, half))

    def test_circles_touching(self):
        for square, centre, at in ((4, (5, 0), (3, 0)), (64, (-5, 0), (3, 0)), (1, (2, 0), (3, 0))):
            sheet = Sheet()
            first, second = sheet.disc(sheet.point(0, 0), 9), sheet.disc(sheet.point(*centre), square)
            both = [sheet.shared(first, second, v) for v in (0, 1)]
            self.one(sheet, *both)
            self.one(sheet, both[0], sheet.point(*at))

    def test_circles_touching_by_a_theorem(self):
        """About (root 2, 0) and (-root 2, 0), of radius root 2."""
        sheet = Sheet()
        zero, root = sheet.number(0), sheet.root_of(2)
        centres = [sheet.at(root, zero), sheet.at(sheet.minus(zero, root), zero)]
        circles = [sheet.disc(centre, 2) for centre in centres]
        left, right = sheet.shared(*circles, 0), sheet.shared(*circles, 1)
        self.one(sheet, left, right)
        self.one(sheet, left, sheet.at(zero, zero))

    def test_mirrored_twice(self):
        sheet = Sheet()
        line = sheet.line(sheet.point(0, 1), sheet.at(sheet.root_of(2), sheet.root_of(3)))
        point = sheet.point(5, -2)
        image = sheet.mirrored(point, line)
        self.apart(sheet, image, point)
        self.one(sheet, sheet.mirrored(image, line), point)

    def test_mirrored_on_the_line(self):
        sheet = Sheet()
        first, second = sheet.point(0, 1), sheet.at(sheet.root_of(2), sheet.root_of(3))
        middle = sheet.middle(first, second)
        self.one(sheet, sheet.mirrored(middle, sheet.line(first, second)), middle)

    def test_one_with_every_way_at_once(self):
        """(1, 0) by coordinates, by a middle, by a crossing, by a line and a circle, by two circles, mirrored."""
        sheet = Sheet()
        level_line = sheet.line(sheet.point(0, 0), sheet.point(2, 0))
        upright = sheet.line(sheet.point(1, 1), sheet.point(1, -1))
        circle = sheet.disc(sheet.point(0, 0), 1)
        ways = [
            sheet.point(1, 0),
            sheet.middle(sheet.point(0, 0), sheet.point(2, 0)),
            sheet.crossing(level_line, upright),
            sheet.chord(level_line, circle, 1),
            sheet.shared(circle, sheet.circle(sheet.point(1, 1), sheet.point(1, 0)), 1),
            sheet.mirrored(sheet.point(1, 0), level_line),
        ]
        for i in ways:
            for j in ways:
                self.assertEqual(ask(level, i, j, sheet.p), ONE)


class AskedAmiss(unittest.TestCase):
    def setUp(self):
        self.p, self.kinds = two_of_each()
        self.numbers, self.points, self.lines, self.circles = self.kinds

    def refused(self, i, j):
        self.assertEqual(ask(level, i, j, self.p), [-6])
        self.assertEqual(ask(level, j, i, self.p), [-6])

    def test_kinds(self):
        for first in self.kinds:
            for second in self.kinds:
                if first is not second or first in (self.lines, self.circles):
                    for i in first:
                        for j in second:
                            self.refused(i, j)

    def test_past_the_last_step(self):
        count = len(self.p) // 4
        self.assertEqual(kind(count - 1, self.p), [3])
        for far in (count, count + 1, len(self.p), 99, 2**32, LARGEST):
            for i in range(count):
                self.refused(i, far)
            self.refused(far, far)

    def test_right_ones(self):
        for i in self.numbers:
            for j in self.numbers:
                self.assertEqual(ask(level, i, j, self.p), [LESS, SAME, GREATER][(i > j) - (i < j) + 1])
        for i in self.points:
            for j in self.points:
                self.assertEqual(ask(level, i, j, self.p), ONE if i == j else APART)


if __name__ == "__main__":
    unittest.main()
