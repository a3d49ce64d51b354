"""value by way of every op: points, lines, circles and their meetings."""

import struct
import unittest

from rulercircle.desk import value
from tests.helper import Sheet, bits


class Figures(unittest.TestCase):
    def number_is(self, sheet, i, double):
        """The number is just this double, so that it's the same by all modes."""
        for mode in range(4):
            self.assertEqual(value(i, mode, sheet.p), [0, 1, bits(double)])

    def point_is(self, sheet, i, x, y):
        self.number_is(sheet, sheet.put(7, i), x)
        self.number_is(sheet, sheet.put(8, i), y)


class Numbers(Figures):
    def test_four_ops(self):
        sheet = Sheet()
        a = sheet.over(sheet.number(7), sheet.number(2))
        b = sheet.over(sheet.number(-5), sheet.number(4))
        self.number_is(sheet, sheet.plus(a, b), 2.25)
        self.number_is(sheet, sheet.minus(a, b), 4.75)
        self.number_is(sheet, sheet.minus(b, a), -4.75)
        self.number_is(sheet, sheet.times(a, b), -4.375)
        self.number_is(sheet, sheet.over(sheet.times(a, b), b), 3.5)
        self.number_is(sheet, sheet.over(b, sheet.number(-5)), 0.25)

    def test_roots(self):
        for top, bottom, root in ((9, 4, 1.5), (0, 5, 0.0), (1, 1024, 0.03125), (-49, -4, 3.5)):
            sheet = Sheet()
            self.number_is(sheet, sheet.root(sheet.over(sheet.number(top), sheet.number(bottom))), root)

    def test_root_of_root(self):
        sheet = Sheet()
        sixteen = sheet.root(sheet.root_of(256))
        self.number_is(sheet, sixteen, 4.0)
        self.number_is(sheet, sheet.root(sheet.plus(sixteen, sheet.number(5))), 3.0)

    def test_roots_within_roots(self):
        """By mode 0 what hundreds of digits tell: root (2 + root (2 + root 2)) is 1.9615705608064608982.."""
        sheet = Sheet()
        two = sheet.number(2)
        root = sheet.root(two)
        for _ in range(2):
            root = sheet.root(sheet.plus(two, root))
        self.assertEqual(value(root, 0, sheet.p), [0, 1, bits(1.9615705608064609)])

    def test_quotient_with_roots(self):
        """1 / (root 2 - 1) is root 2 + 1; less root 2 it's 1."""
        sheet = Sheet()
        one = sheet.number(1)
        root = sheet.root_of(2)
        self.number_is(sheet, sheet.minus(sheet.over(one, sheet.minus(root, one)), root), 1.0)
        self.number_is(sheet, sheet.plus(sheet.over(one, sheet.minus(one, root)), root), -1.0)

    def test_quotients_of_roots_below_zero(self):
        """root 2 / -2 is -root (1 / 2), and (1 - root 2) / (root 2 - 1) is -1."""
        sheet = Sheet()
        one, root = sheet.number(1), sheet.root_of(2)
        part = sheet.over(root, sheet.number(-2))
        self.assertEqual(value(part, 0, sheet.p), [0, 1, bits(-(0.5**0.5))])
        square = sheet.times(part, part)
        self.number_is(sheet, sheet.plus(square, square), 1.0)
        self.number_is(sheet, sheet.over(sheet.minus(one, root), sheet.minus(root, one)), -1.0)
        self.number_is(sheet, sheet.over(sheet.minus(root, one), sheet.minus(one, root)), -1.0)

    def test_distance(self):
        sheet = Sheet()
        first = sheet.point(1, 2)
        second = sheet.point(-3, 5)
        self.number_is(sheet, sheet.put(17, first, second), 25.0)
        self.number_is(sheet, sheet.put(17, second, first), 25.0)
        self.number_is(sheet, sheet.put(17, first, first), 0.0)
        half = sheet.put(15, first, second)
        self.number_is(sheet, sheet.put(17, first, half), 6.25)
        self.number_is(sheet, sheet.put(17, half, second), 6.25)


class Points(Figures):
    def test_coordinates(self):
        sheet = Sheet()
        half = sheet.over(sheet.number(1), sheet.number(2))
        self.point_is(sheet, sheet.at(half, sheet.number(-7)), 0.5, -7.0)
        quarter = sheet.over(sheet.number(-1), sheet.number(4))
        self.point_is(sheet, sheet.at(half, quarter), 0.5, -0.25)
        self.point_is(sheet, sheet.at(quarter, half), -0.25, 0.5)

    def test_middle(self):
        sheet = Sheet()
        first = sheet.point(1, 2)
        second = sheet.point(4, -6)
        middle = sheet.put(15, first, second)
        self.point_is(sheet, middle, 2.5, -2.0)
        self.point_is(sheet, sheet.put(15, middle, first), 1.75, 0.0)
        self.point_is(sheet, sheet.put(15, first, first), 1.0, 2.0)

    def test_mirrored(self):
        sheet = Sheet()
        line = sheet.line(sheet.point(0, 0), sheet.point(2, 1))
        back = sheet.line(sheet.point(2, 1), sheet.point(0, 0))
        point = sheet.point(0, 5)
        image = sheet.put(16, point, line)
        self.point_is(sheet, image, 4.0, -3.0)
        self.point_is(sheet, sheet.put(16, point, back), 4.0, -3.0)
        self.point_is(sheet, sheet.put(16, image, line), 0.0, 5.0)
        self.point_is(sheet, sheet.put(16, sheet.point(2, 1), line), 2.0, 1.0)

    def test_mirrored_in_a_line_off_the_origin(self):
        sheet = Sheet()
        line = sheet.line(sheet.point(0, 1), sheet.point(1, 2))
        half = sheet.put(15, sheet.point(5, 0), sheet.point(2, 0))
        self.point_is(sheet, sheet.put(16, half, line), -1.0, 4.5)

    def test_lines_meet(self):
        sheet = Sheet()
        first = sheet.line(sheet.point(0, 1), sheet.point(2, 2))
        second = sheet.line(sheet.point(0, 4), sheet.point(1, 3))
        for a, b in ((first, second), (second, first)):
            self.point_is(sheet, sheet.put(12, a, b), 2.0, 2.0)
        turned = sheet.line(sheet.point(1, 3), sheet.point(0, 4))
        self.point_is(sheet, sheet.put(12, first, turned), 2.0, 2.0)
        upright = sheet.line(sheet.point(3, 0), sheet.point(3, 1))
        self.point_is(sheet, sheet.put(12, upright, first), 3.0, 2.5)

    def test_lines_meet_between_points_with_bottoms(self):
        sheet = Sheet()
        half = sheet.over(sheet.number(1), sheet.number(2))
        quarter = sheet.over(sheet.number(1), sheet.number(4))
        first = sheet.line(sheet.at(half, quarter), sheet.point(0, 0))
        level = sheet.line(sheet.at(quarter, half), sheet.at(half, half))
        self.point_is(sheet, sheet.put(12, first, level), 1.0, 0.5)


class LineAndCircle(Figures):
    def meeting(self, places, centre, square, v):
        sheet = Sheet()
        line = sheet.line(*[sheet.point(x, y) for x, y in places])
        return sheet, sheet.put(13, line, sheet.disc(sheet.point(*centre), square), v)

    def test_first_and_last(self):
        for places, first, last in (
            (((0, 3), (1, 3)), (-4, 3), (4, 3)),
            (((1, 3), (0, 3)), (4, 3), (-4, 3)),
            (((-3, 0), (-3, 9)), (-3, -4), (-3, 4)),
            (((-3, 9), (-3, 0)), (-3, 4), (-3, -4)),
            (((0, -5), (5, 0)), (0, -5), (5, 0)),
            (((5, 0), (0, -5)), (5, 0), (0, -5)),
            (((8, 7), (-6, -7)), (4, 3), (-3, -4)),
        ):
            self.point_is(*self.meeting(places, (0, 0), 25, 0), *first)
            self.point_is(*self.meeting(places, (0, 0), 25, 1), *last)

    def test_away_from_the_origin(self):
        places = ((10, 23), (11, 23))
        self.point_is(*self.meeting(places, (10, 20), 25, 0), 6, 23)
        self.point_is(*self.meeting(places, (10, 20), 25, 1), 14, 23)

    def test_touching(self):
        for v in (0, 1):
            self.point_is(*self.meeting(((7, 5), (8, 5)), (0, 0), 25, v), 0, 5)
            self.point_is(*self.meeting(((-5, 7), (-5, 3)), (0, 0), 25, v), -5, 0)
            self.point_is(*self.meeting(((7, 1), (-1, 7)), (0, 0), 25, v), 3, 4)

    def test_touching_by_roots(self):
        """The line x + y = 2 root 2 touches the circle of radius 2."""
        for v in (0, 1):
            sheet = Sheet()
            far = sheet.root_of(8)
            zero = sheet.number(0)
            line = sheet.line(sheet.at(far, zero), sheet.at(zero, far))
            point = sheet.put(13, line, sheet.disc(sheet.at(zero, zero), 4), v)
            x = sheet.put(7, point)
            self.number_is(sheet, sheet.times(x, x), 2.0)
            self.number_is(sheet, sheet.minus(x, sheet.put(8, point)), 0.0)

    def test_radius_of_nothing(self):
        for v in (0, 1):
            self.point_is(*self.meeting(((0, 0), (3, 4)), (6, 8), 0, v), 6, 8)
            sheet = Sheet()
            point = sheet.point(6, 8)
            line = sheet.line(sheet.point(0, 0), sheet.point(3, 4))
            self.point_is(sheet, sheet.put(13, line, sheet.circle(point, point), v), 6, 8)

    def test_circle_through_a_point(self):
        sheet = Sheet()
        line = sheet.line(sheet.point(0, 0), sheet.point(1, 0))
        half = sheet.put(15, sheet.point(1, 0), sheet.point(2, 0))
        circle = sheet.circle(half, sheet.point(0, 2))
        self.point_is(sheet, sheet.put(13, line, circle, 0), -1.0, 0.0)
        self.point_is(sheet, sheet.put(13, line, circle, 1), 4.0, 0.0)

    def test_square_with_a_bottom(self):
        sheet = Sheet()
        line = sheet.line(sheet.point(0, 0), sheet.point(1, 0))
        square = sheet.over(sheet.number(25), sheet.number(4))
        half = sheet.put(15, sheet.point(1, 3), sheet.point(2, 0))
        circle = sheet.put(11, half, square)
        self.point_is(sheet, sheet.put(13, line, circle, 0), -0.5, 0.0)
        self.point_is(sheet, sheet.put(13, line, circle, 1), 3.5, 0.0)


class TwoCircles(Figures):
    def meeting(self, first, second, v):
        sheet = Sheet()
        circles = [sheet.disc(sheet.point(x, y), square) for x, y, square in (first, second)]
        return sheet, sheet.put(14, circles[0], circles[1], v)

    def test_left_and_right(self):
        for first, second, left, right in (
            ((0, 0, 25), (6, 0, 25), (3, 4), (3, -4)),
            ((6, 0, 25), (0, 0, 25), (3, -4), (3, 4)),
            ((0, 0, 25), (0, 6, 25), (-4, 3), (4, 3)),
            ((0, 6, 25), (0, 0, 25), (4, 3), (-4, 3)),
            ((0, 0, 25), (7, 7, 25), (3, 4), (4, 3)),
            ((1, 0, 20), (6, 0, 5), (5, 2), (5, -2)),
            ((2, 0, 5), (1, 0, 8), (3, -2), (3, 2)),
        ):
            self.point_is(*self.meeting(first, second, 0), *left)
            self.point_is(*self.meeting(first, second, 1), *right)

    def test_meeting_behind_both_centres(self):
        """A small circle at the edge of a large one: the meetings lie before, or behind, the way."""
        self.point_is(*self.meeting((0, 0, 25), (2, 0, 17), 0), 3, 4)
        self.point_is(*self.meeting((0, 0, 25), (2, 0, 17), 1), 3, -4)
        self.point_is(*self.meeting((2, 0, 17), (0, 0, 25), 0), 3, -4)
        self.point_is(*self.meeting((2, 0, 17), (0, 0, 25), 1), 3, 4)

    def test_touching(self):
        for v in (0, 1):
            self.point_is(*self.meeting((0, 0, 9), (5, 0, 4), v), 3, 0)
            self.point_is(*self.meeting((0, 0, 100), (3, 4, 25), v), 6, 8)
            self.point_is(*self.meeting((3, 4, 25), (0, 0, 100), v), 6, 8)
            self.point_is(*self.meeting((0, 0, 1), (0, -9, 64), v), 0, -1)

    def test_radius_of_nothing(self):
        for v in (0, 1):
            self.point_is(*self.meeting((0, 0, 25), (3, 4, 0), v), 3, 4)
            self.point_is(*self.meeting((3, 4, 0), (0, 0, 25), v), 3, 4)

    def test_with_bottoms(self):
        sheet = Sheet()
        half = sheet.put(15, sheet.point(0, 0), sheet.point(1, 0))
        quarter = sheet.over(sheet.number(1), sheet.number(4))
        first = sheet.circle(half, sheet.point(0, 0))
        second = sheet.put(11, sheet.point(1, 0), quarter)
        point = sheet.put(14, first, second, 0)
        self.number_is(sheet, sheet.put(7, point), 0.75)
        y = sheet.put(8, point)
        self.number_is(sheet, sheet.times(y, y), 0.1875)
        self.assertLess(value(y, 0, sheet.p)[2], 1 << 63)
        y = sheet.put(8, sheet.put(14, first, second, 1))
        self.assertGreater(value(y, 0, sheet.p)[2], 1 << 63)

    def test_point_lies_on_both(self):
        sheet = Sheet()
        first = sheet.point(1, 2)
        second = sheet.point(4, 3)
        meeting = sheet.put(14, sheet.disc(first, 7), sheet.disc(second, 5), 1)
        self.number_is(sheet, sheet.put(17, meeting, first), 7.0)
        self.number_is(sheet, sheet.put(17, meeting, second), 5.0)

    def test_meetings_of_what_meetings_make(self):
        """About a meeting of two like circles another like one: it goes through both centres."""
        sheet = Sheet()
        first = sheet.point(0, 0)
        second = sheet.point(1, 0)
        upper = sheet.put(14, sheet.disc(first, 2), sheet.disc(second, 2), 0)
        circle = sheet.circle(upper, first)
        line = sheet.line(first, second)
        self.point_is(sheet, sheet.put(13, line, circle, 0), 0.0, 0.0)
        self.point_is(sheet, sheet.put(13, line, circle, 1), 1.0, 0.0)

    def test_chord(self):
        """The line through both meetings stands in the middle of the centres."""
        sheet = Sheet()
        first = sheet.disc(sheet.point(0, 0), 2)
        second = sheet.disc(sheet.point(1, 0), 2)
        chord = sheet.line(sheet.put(14, first, second, 1), sheet.put(14, first, second, 0))
        level = sheet.line(sheet.point(0, 0), sheet.point(1, 2))
        self.point_is(sheet, sheet.put(12, chord, level), 0.5, 1.0)


class GreatestWeight(Figures):
    """Three steps of op 5, 13 or 14, and a number of all the weight that a step may have."""

    def upper_corner(self, sheet):
        """Where two like circles about (0, 0), (1, 0) meet; it weighs 672."""
        return sheet.put(14, sheet.disc(sheet.point(0, 0), 2), sheet.disc(sheet.point(1, 0), 2), 0)

    def weighs_all(self, sheet, i):
        self.assertEqual(sheet.weights[i], 8192)

    def test_all_three(self):
        """By op 14 and 13 the point (1, 0), and its x times a root that weighs 2,144."""
        sheet = Sheet()
        centre = self.upper_corner(sheet)
        line = sheet.line(sheet.point(0, 0), sheet.point(1, 0))
        x = sheet.put(7, sheet.put(13, line, sheet.circle(centre, sheet.point(0, 0)), 1))
        root = sheet.root(sheet.times(sheet.heavy(2130), sheet.number(3)))
        last = sheet.times(x, root)
        for mode in range(4):
            self.assertEqual(value(last, mode, sheet.p), value(root, mode, sheet.p))
        self.assertNotEqual(value(last, 1, sheet.p), value(last, 2, sheet.p))
        self.weighs_all(sheet, last)

    def test_meetings_alone(self):
        """The middle of (1, 0) and (4, 3), both met, and to its x a number that weighs 1,471."""
        sheet = Sheet()
        about = sheet.circle(self.upper_corner(sheet), sheet.point(0, 0))
        first = sheet.put(14, about, sheet.disc(sheet.point(0, 0), 1), 0)
        line = sheet.line(sheet.point(0, 3), sheet.point(1, 3))
        second = sheet.put(13, line, sheet.disc(sheet.point(0, 0), 25), 1)
        x = sheet.put(7, sheet.put(15, first, second))
        self.number_is(sheet, x, 2.5)
        heavy = sheet.heavy(1471)
        last = sheet.plus(x, heavy)
        whole = struct.unpack("<d", struct.pack("<Q", value(heavy, 3, sheet.p)[2]))[0]
        self.number_is(sheet, last, whole + 2.5)
        self.weighs_all(sheet, last)

    def test_roots_alone(self):
        """Of the sum of three roots the square, less twice their products, is that of the numbers."""
        sheet = Sheet()
        roots = [sheet.root_of(v) for v in (9973, 9967, 9949)]
        total = sheet.plus(sheet.plus(roots[0], roots[1]), roots[2])
        square = sheet.times(total, total)
        pairs = [sheet.times(roots[0], roots[1]), sheet.times(roots[0], roots[2]), sheet.times(roots[1], roots[2])]
        products = sheet.plus(sheet.plus(pairs[0], pairs[1]), pairs[2])
        square = sheet.minus(square, sheet.plus(products, products))
        self.number_is(sheet, square, 9973.0 + 9967.0 + 9949.0)
        for _ in range(4):
            square = sheet.times(square, square)
        self.assertEqual(value(square, 0, sheet.p), [0, 1, bits(float(29889**16))])
        last = sheet.times(square, sheet.heavy(8192 - 16 * 262))
        self.weighs_all(sheet, last)
        self.assertEqual(value(last, 0, sheet.p)[:2], [0, 1])


if __name__ == "__main__":
    unittest.main()
