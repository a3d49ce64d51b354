"""-2 to -5 and -6: steps that can't be, which refusal comes first, and what is asked amiss."""

import unittest

from rulercircle.desk import kind, value
from tests.helper import LARGEST, Sheet, every_answer


class Refusing(unittest.TestCase):
    def refused(self, p, answer):
        for given in every_answer(p):
            self.assertEqual(given, answer)

    def last_refused(self, sheet, why):
        """The last step can't be, and all before it can."""
        last = len(sheet.steps) - 1
        self.assertEqual(kind(0, sheet.p[:-4]), [0])
        self.refused(sheet.p, [why, 1, last])

    def last_stands(self, sheet):
        self.assertEqual(kind(0, sheet.p), [0])


class DividedByZero(Refusing):
    def test_plain(self):
        for top in (5, 0, -5):
            sheet = Sheet()
            sheet.over(sheet.number(top), sheet.number(0))
            self.last_refused(sheet, -2)

    def test_difference(self):
        sheet = Sheet()
        third = sheet.over(sheet.number(1), sheet.number(3))
        sixth = sheet.over(third, sheet.number(2))
        gap = sheet.minus(third, sheet.plus(sixth, sixth))
        sheet.over(third, gap)
        self.last_refused(sheet, -2)

    def test_zero_by_way_of_roots(self):
        sheet = Sheet()
        product = sheet.times(sheet.root_of(2), sheet.root_of(3))
        gap = sheet.minus(product, sheet.root_of(6))
        sheet.over(sheet.number(1), gap)
        self.last_refused(sheet, -2)

    def test_zero_by_nested_roots(self):
        sheet = Sheet()
        two = sheet.number(2)
        root = sheet.root(two)
        nested = sheet.root(sheet.plus(sheet.number(3), sheet.times(two, root)))
        sheet.over(two, sheet.minus(nested, sheet.plus(root, sheet.number(1))))
        self.last_refused(sheet, -2)

    def test_nearly_zero(self):
        """99 root 2 less 140 is just above 0, and to the 8th power still."""
        sheet = Sheet()
        small = sheet.minus(sheet.times(sheet.number(99), sheet.root_of(2)), sheet.number(140))
        for _ in range(3):
            small = sheet.times(small, small)
        sheet.over(sheet.number(1), small)
        self.last_stands(sheet)


class BelowZero(Refusing):
    def test_roots(self):
        sheet = Sheet()
        sheet.root_of(-1)
        self.last_refused(sheet, -3)
        sheet = Sheet()
        sheet.root(sheet.over(sheet.number(1), sheet.number(-9999)))
        self.last_refused(sheet, -3)

    def test_root_of_zero_and_above(self):
        for top, bottom in ((0, 1), (0, -3), (-1, -9999), (1, 9999)):
            sheet = Sheet()
            sheet.root(sheet.over(sheet.number(top), sheet.number(bottom)))
            self.last_stands(sheet)

    def test_roots_of_what_roots_make(self):
        sheet = Sheet()
        sheet.root(sheet.minus(sheet.number(1), sheet.root_of(2)))
        self.last_refused(sheet, -3)
        sheet = Sheet()
        sheet.root(sheet.minus(sheet.root_of(2), sheet.number(1)))
        self.last_stands(sheet)
        sheet = Sheet()
        sheet.root(sheet.minus(sheet.root_of(4), sheet.number(2)))
        self.last_stands(sheet)

    def test_radius(self):
        for square in (-1, -9999):
            sheet = Sheet()
            sheet.disc(sheet.point(1, 2), square)
            self.last_refused(sheet, -3)
        for square in (0, 1, 9999):
            sheet = Sheet()
            sheet.disc(sheet.point(1, 2), square)
            self.last_stands(sheet)

    def test_radius_just_below(self):
        sheet = Sheet()
        centre = sheet.point(1, 2)
        square = sheet.minus(sheet.number(140), sheet.times(sheet.number(99), sheet.root_of(2)))
        sheet.put(11, centre, square)
        self.last_refused(sheet, -3)

    def test_radius_of_less_than_nothing_by_a_quotient(self):
        sheet = Sheet()
        centre = sheet.point(1, 2)
        sheet.put(11, centre, sheet.over(sheet.number(1), sheet.number(-2)))
        self.last_refused(sheet, -3)
        sheet = Sheet()
        centre = sheet.point(1, 2)
        sheet.put(11, centre, sheet.over(sheet.number(-1), sheet.number(-2)))
        self.last_stands(sheet)


def apex(sheet):
    """The third corner of the triangle of equal sides on (0, 0), (2, 0), by circles."""
    return sheet.apex(sheet.point(0, 0), sheet.point(2, 0))


class Undetermined(Refusing):
    def test_line_through_one_step_twice(self):
        sheet = Sheet()
        point = sheet.point(3, 4)
        sheet.line(point, point)
        self.last_refused(sheet, -4)

    def test_line_through_one_place_twice(self):
        sheet = Sheet()
        point = sheet.point(3, 4)
        sheet.line(point, sheet.put(15, sheet.point(1, 0), sheet.point(5, 8)))
        self.last_refused(sheet, -4)

    def test_line_through_one_place_by_a_theorem(self):
        sheet = Sheet()
        sheet.line(apex(sheet), sheet.at(sheet.number(1), sheet.root_of(3)))
        self.last_refused(sheet, -4)

    def test_lines_through_places_alike_in_one_way(self):
        for x, y in ((0, 1), (1, 0)):
            sheet = Sheet()
            sheet.line(sheet.point(0, 0), sheet.point(x, y))
            self.last_stands(sheet)

    def lines(self, *places):
        sheet = Sheet()
        points = [sheet.point(x, y) for x, y in places]
        sheet.put(12, sheet.line(points[0], points[1]), sheet.line(points[2], points[3]))
        return sheet

    def test_parallel_lines(self):
        self.last_refused(self.lines((0, 0), (1, 2), (5, 0), (7, 4)), -4)
        self.last_refused(self.lines((0, 0), (1, 2), (7, 4), (5, 0)), -4)
        self.last_refused(self.lines((0, 0), (0, 2), (7, 4), (7, 0)), -4)
        self.last_refused(self.lines((0, 0), (1, 0), (7, 4), (9, 4)), -4)

    def test_one_line(self):
        self.last_refused(self.lines((0, 0), (1, 2), (2, 4), (3, 6)), -4)
        self.last_refused(self.lines((0, 0), (1, 2), (3, 6), (2, 4)), -4)
        sheet = Sheet()
        line = sheet.line(sheet.point(0, 0), sheet.point(1, 2))
        sheet.put(12, line, line)
        self.last_refused(sheet, -4)

    def test_lines_that_meet(self):
        self.last_stands(self.lines((0, 0), (1, 2), (5, 0), (7, 5)))
        self.last_stands(self.lines((0, 0), (9998, 9999), (1, 0), (9998, 9998)))

    def test_parallel_by_a_theorem(self):
        """A triangle of equal sides: its height, by way of the middle of a side, stands straight on that side."""
        sheet = Sheet()
        top = apex(sheet)
        middle = sheet.put(15, sheet.point(0, 0), sheet.point(2, 0))
        upright = sheet.line(sheet.point(0, 2), sheet.point(0, 0))
        sheet.put(12, sheet.line(middle, top), upright)
        self.last_refused(sheet, -4)

    def test_circles_about_one_centre(self):
        for first, second in ((1, 2), (1, 1), (0, 0), (0, 1)):
            sheet = Sheet()
            centre = sheet.point(3, 4)
            sheet.put(14, sheet.disc(centre, first), sheet.disc(centre, second))
            self.last_refused(sheet, -4)

    def test_one_circle_twice(self):
        sheet = Sheet()
        circle = sheet.disc(sheet.point(3, 4), 5)
        sheet.put(14, circle, circle, 1)
        self.last_refused(sheet, -4)

    def test_centres_that_are_one_by_a_theorem(self):
        sheet = Sheet()
        first = sheet.disc(apex(sheet), 4)
        second = sheet.disc(sheet.at(sheet.number(1), sheet.root_of(3)), 9)
        sheet.put(14, first, second)
        self.last_refused(sheet, -4)

    def test_centres_alike_in_one_way(self):
        for x, y in ((3, 5), (4, 4)):
            sheet = Sheet()
            first = sheet.disc(sheet.point(3, 4), 1)
            sheet.put(14, first, sheet.disc(sheet.point(x, y), 1))
            self.last_stands(sheet)


class Apart(Refusing):
    def line_and_circle(self, height, square, v):
        sheet = Sheet()
        line = sheet.line(sheet.point(0, height), sheet.point(1, height))
        sheet.put(13, line, sheet.disc(sheet.point(5, 0), square), v)
        return sheet

    def test_line_and_circle(self):
        for v in (0, 1):
            self.last_refused(self.line_and_circle(3, 8, v), -5)
            self.last_refused(self.line_and_circle(-3, 8, v), -5)
            self.last_refused(self.line_and_circle(1, 0, v), -5)
            self.last_stands(self.line_and_circle(3, 9, v))
            self.last_stands(self.line_and_circle(-3, 9, v))
            self.last_stands(self.line_and_circle(3, 10, v))
            self.last_stands(self.line_and_circle(0, 0, v))

    def circles(self, distance, first, second, v):
        sheet = Sheet()
        circle = sheet.disc(sheet.point(0, 7), first)
        sheet.put(14, circle, sheet.disc(sheet.point(distance, 7), second), v)
        return sheet

    def test_circles_out_of_one_another(self):
        for v in (0, 1):
            self.last_refused(self.circles(6, 9, 8, v), -5)
            self.last_refused(self.circles(6, 8, 9, v), -5)
            self.last_refused(self.circles(1, 0, 0, v), -5)
            self.last_stands(self.circles(6, 9, 9, v))
            self.last_stands(self.circles(-6, 9, 9, v))
            self.last_stands(self.circles(6, 9, 10, v))

    def test_circles_within_one_another(self):
        for v in (0, 1):
            self.last_refused(self.circles(2, 1, 10, v), -5)
            self.last_refused(self.circles(2, 10, 1, v), -5)
            self.last_refused(self.circles(2, 0, 5, v), -5)
            self.last_refused(self.circles(2, 3, 0, v), -5)
            self.last_stands(self.circles(2, 1, 9, v))
            self.last_stands(self.circles(2, 9, 1, v))
            self.last_stands(self.circles(2, 0, 4, v))
            self.last_stands(self.circles(2, 4, 0, v))
            self.last_stands(self.circles(2, 8, 1, v))

    def test_nearly_touching(self):
        """The radius is root 2, and the line 99 / 70 away: more, by less than one in ten thousand."""
        sheet = Sheet()
        far = sheet.over(sheet.number(99), sheet.number(70))
        line = sheet.line(sheet.at(sheet.number(0), far), sheet.at(sheet.number(1), far))
        sheet.put(13, line, sheet.disc(sheet.point(0, 0), 2))
        self.last_refused(sheet, -5)


class Order(Refusing):
    ZERO_OVER = [0, 0, 0, 0, 4, 0, 0, 0]

    def test_told_wrong_behind_what_cannot_be(self):
        self.refused(self.ZERO_OVER + [18, 0, 0, 0], [-1, 1, 2])
        self.refused(self.ZERO_OVER + [0, 0, 0, 1] * 29 + [0, 0, 0, 10000], [-1, 1, 31])
        self.refused([0, 0, 0, -1, 5, 0, 0, 0, 5, 0, 0, 0, 5, 0, 0, 0, 5, 0, 0, 0], [-1, 1, 4])

    def test_told_wrong_of_what_cannot_be(self):
        self.refused(self.ZERO_OVER + [7, 1, 0, 0], [-1, 1, 2])
        self.refused(self.ZERO_OVER + [1, 1, 2, 0], [-1, 1, 2])

    def test_first_told_wrong(self):
        self.refused([0, 0, 0, 1, 18, 0, 0, 0, 19, 0, 0, 0], [-1, 1, 1])
        self.refused([0, 0, 0, 10000, 1, 0, 1, 0], [-1, 1, 0])
        self.refused([0, 0, 0, 1, 1, 0, 0, 5, 0, 1, 0, 0, 18, 0, 0, 0], [-1, 1, 1])

    def test_first_that_cannot_be(self):
        self.refused(self.ZERO_OVER + [0, 0, 0, -1, 5, 2, 0, 0], [-2, 1, 1])
        self.refused([0, 0, 0, -1, 5, 0, 0, 0, 0, 0, 0, 0, 4, 0, 2, 0], [-3, 1, 1])
        self.refused([0, 0, 0, 0, 6, 0, 0, 0, 9, 1, 1, 0, 4, 0, 0, 0], [-4, 1, 2])
        sheet = Sheet()
        line = sheet.line(sheet.point(0, 5), sheet.point(1, 5))
        apart = sheet.put(13, line, sheet.disc(sheet.point(0, 0), 1))
        sheet.line(apart, apart)
        sheet.root_of(-7)
        self.refused(sheet.p, [-5, 1, apart])

    def test_what_is_made_of_what_cannot_be(self):
        self.refused(self.ZERO_OVER + [3, 1, 1, 0, 4, 2, 2, 0], [-2, 1, 1])

    def test_asked_amiss_comes_last(self):
        p = [0, 0, 0, 0, 6, 0, 0, 0]
        self.assertEqual(kind(2, p), [-6])
        self.assertEqual(value(1, 0, p), [-6])
        self.assertEqual(value(0, 4, p), [-6])
        for more, answer in (([4, 0, 0, 0], [-2, 1, 2]), ([9, 1, 1, 0], [-4, 1, 2]), ([5, 1, 0, 0], [-1, 1, 2])):
            self.assertEqual(kind(3, p + more), answer)
            self.assertEqual(value(1, 0, p + more), answer)
            self.assertEqual(value(0, 4, p + more), answer)


class AskedAmiss(unittest.TestCase):
    def setUp(self):
        sheet = Sheet()
        self.number = sheet.number(3)
        self.point = sheet.at(0, 0)
        self.line = sheet.line(self.point, sheet.point(1, 2))
        self.circle = sheet.disc(self.point, 5)
        self.p = sheet.p

    def test_value_of_no_number(self):
        for i in (self.point, self.line, self.circle):
            for mode in (0, 1, 2, 3, 4, LARGEST):
                self.assertEqual(value(i, mode, self.p), [-6])

    def test_value_of_no_step(self):
        count = len(self.p) // 4
        for i in (count, count + 1, len(self.p), LARGEST):
            for mode in (0, 1, 2, 3, 4, LARGEST):
                self.assertEqual(value(i, mode, self.p), [-6])

    def test_value_by_no_mode(self):
        for mode in (4, 5, 8, 2**32, LARGEST):
            self.assertEqual(value(self.number, mode, self.p), [-6])
        for mode in (0, 1, 2, 3):
            self.assertEqual(value(self.number, mode, self.p)[:2], [0, 1])


if __name__ == "__main__":
    unittest.main()
