"""side: on which side of a line a point lies, and whether within a circle."""

import unittest

from rulercircle.desk import level, side
from tests.helper import DIRECTIONS, LARGEST, Sheet, ask, two_of_each

RIGHT, ON, LEFT = [0], [1], [2]
OUT, WITHIN = [0], [2]


def told(sign):
    """The answer for how far a point lies to the left, or within."""
    return [1 + (sign > 0) - (sign < 0)]


class Lines(unittest.TestCase):
    def side_is(self, sheet, i, j, wanted):
        self.assertEqual(ask(side, i, j, sheet.p), wanted)

    def test_common_directions(self):
        """Rising x, rising y, falling x, falling y, and the diagonals."""
        for towards, left, right in (
            ((1, 0), (0, 1), (0, -1)),
            ((0, 1), (-1, 0), (1, 0)),
            ((-1, 0), (0, -1), (0, 1)),
            ((0, -1), (1, 0), (-1, 0)),
            ((1, 1), (0, 1), (1, 0)),
            ((-1, 1), (-1, 0), (0, 1)),
            ((-1, -1), (0, -1), (-1, 0)),
            ((1, -1), (1, 0), (0, -1)),
        ):
            sheet = Sheet()
            start, end = sheet.point(0, 0), sheet.point(*towards)
            line, back = sheet.line(start, end), sheet.line(end, start)
            ahead = sheet.point(7 * towards[0], 7 * towards[1])
            behind = sheet.point(-7 * towards[0], -7 * towards[1])
            for point in (start, end, ahead, behind):
                self.side_is(sheet, line, point, ON)
                self.side_is(sheet, back, point, ON)
            self.side_is(sheet, line, sheet.point(*left), LEFT)
            self.side_is(sheet, line, sheet.point(*right), RIGHT)
            self.side_is(sheet, back, sheet.point(*left), RIGHT)
            self.side_is(sheet, back, sheet.point(*right), LEFT)

    def test_many_directions(self):
        for x, y in DIRECTIONS:
            sheet = Sheet()
            start, end = sheet.point(2, -1), sheet.point(2 + x, y - 1)
            line, back = sheet.line(start, end), sheet.line(end, start)
            for u in range(-1, 5):
                for v in range(-3, 2):
                    last = len(sheet.steps)
                    p = sheet.p + [0, 0, 0, u, 0, 0, 0, v, 6, last, last + 1, 0]
                    left = x * (v + 1) - y * (u - 2)
                    self.assertEqual(side(line, last + 2, p), told(left))
                    self.assertEqual(side(back, last + 2, p), told(-left))

    def test_just_beside(self):
        """The line through (0, 0) and (9998, 9999) goes by (9997, 9998) and (1, 1) by very little."""
        sheet = Sheet()
        line = sheet.line(sheet.point(0, 0), sheet.point(9998, 9999))
        self.side_is(sheet, line, sheet.point(9997, 9998), LEFT)
        self.side_is(sheet, line, sheet.point(1, 1), RIGHT)
        self.side_is(sheet, line, sheet.point(-1, -1), LEFT)
        self.side_is(sheet, line, sheet.middle(sheet.point(0, 0), sheet.point(9998, 9999)), ON)

    def test_over_bottoms(self):
        sheet = Sheet()
        half = sheet.over(sheet.number(-1), sheet.number(-2))
        third = sheet.over(sheet.number(1), sheet.number(3))
        line = sheet.line(sheet.at(half, third), sheet.at(third, half))
        # They all lie by the line x + y = 5 / 6 towards falling x.
        sixth = sheet.times(half, third)
        self.side_is(sheet, line, sheet.at(sixth, sheet.plus(half, sixth)), ON)
        self.side_is(sheet, line, sheet.at(half, half), RIGHT)
        self.side_is(sheet, line, sheet.at(third, third), LEFT)

    def test_by_roots(self):
        """The line towards (root 2, 2) goes on through (1, root 2); (70, 99) lies just by its left."""
        sheet = Sheet()
        root = sheet.root_of(2)
        line = sheet.line(sheet.point(0, 0), sheet.at(root, sheet.number(2)))
        self.side_is(sheet, line, sheet.at(sheet.number(1), root), ON)
        self.side_is(sheet, line, sheet.point(70, 99), LEFT)
        self.side_is(sheet, line, sheet.point(29, 41), RIGHT)

    def test_crossing_lies_on_both(self):
        for x, y in DIRECTIONS:
            sheet = Sheet()
            first = sheet.line(sheet.point(1, 2), sheet.point(1 + x, 2 + y))
            second = sheet.line(sheet.point(0, 5), sheet.point(7, 3))
            if 7 * y + 2 * x != 0:
                for a, b in ((first, second), (second, first)):
                    point = sheet.crossing(a, b)
                    self.side_is(sheet, first, point, ON)
                    self.side_is(sheet, second, point, ON)

    def test_heights_of_a_triangle(self):
        """Where two of them meet lies on the third; where two of its halving lines, too."""
        sheet = Sheet()
        corners = [sheet.point(0, 0), sheet.point(5, 1), sheet.point(2, 4)]
        heights = sheet.heights(corners)
        self.side_is(sheet, heights[2], sheet.crossing(heights[0], heights[1]), ON)
        halving = [sheet.line(corners[k], sheet.middle(corners[k - 1], corners[k - 2])) for k in range(3)]
        centre = sheet.crossing(halving[0], halving[1])
        self.side_is(sheet, halving[2], centre, ON)
        self.assertIn(ask(side, heights[2], centre, sheet.p), (LEFT, RIGHT))

    def test_middle_of_equal_circles(self):
        """Where two like circles meet lies on the line that stands in the middle of their centres."""
        sheet = Sheet()
        first, second = sheet.point(1, 2), sheet.point(5, 4)
        upright = sheet.line(sheet.point(3, 3), sheet.point(2, 5))
        way = sheet.line(first, second)
        circles = [sheet.disc(first, 9), sheet.disc(second, 9)]
        for v, wanted in ((0, LEFT), (1, RIGHT)):
            meeting = sheet.shared(*circles, v)
            self.side_is(sheet, upright, meeting, ON)
            self.side_is(sheet, way, meeting, wanted)

    def test_mirrored(self):
        for x, y in DIRECTIONS:
            sheet = Sheet()
            start, end = sheet.point(1, 1), sheet.point(1 + x, 1 + y)
            line = sheet.line(start, end)
            point = sheet.point(4, -6)
            image = sheet.mirrored(point, line)
            here = ask(side, line, point, sheet.p)
            self.side_is(sheet, line, image, [2 - here[0]])
            self.side_is(sheet, line, sheet.middle(point, image), ON)
            self.side_is(sheet, line, sheet.mirrored(end, line), ON)

    def test_mirrored_in_a_line_of_roots(self):
        sheet = Sheet()
        line = sheet.line(sheet.at(sheet.root_of(2), sheet.root_of(5)), sheet.point(-1, 1))
        point = sheet.point(3, 7)
        image = sheet.mirrored(point, line)
        self.side_is(sheet, line, point, RIGHT)
        self.side_is(sheet, line, image, LEFT)
        self.side_is(sheet, line, sheet.middle(image, point), ON)


class Circles(unittest.TestCase):
    def side_is(self, sheet, i, j, wanted):
        self.assertEqual(ask(side, i, j, sheet.p), wanted)

    def test_through_a_point(self):
        for x, y in ((3, 0), (0, -2), (2, 1), (-1, 2), (0, 0)):
            sheet = Sheet()
            circle = sheet.circle(sheet.point(1, -1), sheet.point(1 + x, y - 1))
            for u in range(-3, 6):
                for v in range(-5, 4):
                    last = len(sheet.steps)
                    p = sheet.p + [0, 0, 0, u, 0, 0, 0, v, 6, last, last + 1, 0]
                    self.assertEqual(side(circle, last + 2, p), told(x * x + y * y - (u - 1) ** 2 - (v + 1) ** 2))

    def test_by_the_square_of_the_radius(self):
        for square in (0, 1, 2, 5, 6, 25):
            sheet = Sheet()
            circle = sheet.disc(sheet.point(-2, 1), square)
            for u in range(-8, 5):
                for v in range(-5, 8):
                    last = len(sheet.steps)
                    p = sheet.p + [0, 0, 0, u, 0, 0, 0, v, 6, last, last + 1, 0]
                    self.assertEqual(side(circle, last + 2, p), told(square - (u + 2) ** 2 - (v - 1) ** 2))

    def test_centre_and_the_point_gone_through(self):
        sheet = Sheet()
        centre, through = sheet.point(3, 4), sheet.at(sheet.root_of(2), sheet.root_of(3))
        circle = sheet.circle(centre, through)
        self.side_is(sheet, circle, centre, WITHIN)
        self.side_is(sheet, circle, through, ON)
        self.side_is(sheet, circle, sheet.middle(centre, through), WITHIN)
        self.side_is(sheet, circle, sheet.point(0, 0), OUT)

    def test_radius_of_nothing(self):
        sheet = Sheet()
        centre, other = sheet.point(3, 4), sheet.point(3, 5)
        for circle in (sheet.circle(centre, centre), sheet.disc(centre, 0)):
            self.side_is(sheet, circle, centre, ON)
            self.side_is(sheet, circle, sheet.middle(sheet.point(3, 3), other), ON)
            self.side_is(sheet, circle, other, OUT)
            self.side_is(sheet, circle, sheet.point(4, 4), OUT)

    def test_radius_of_nothing_by_a_theorem(self):
        sheet = Sheet()
        apex = sheet.apex(sheet.point(0, 0), sheet.point(2, 0))
        same = sheet.at(sheet.number(1), sheet.root_of(3))
        circle = sheet.circle(apex, same)
        self.side_is(sheet, circle, apex, ON)
        self.side_is(sheet, circle, same, ON)
        self.side_is(sheet, circle, sheet.point(1, 2), OUT)

    def test_over_bottoms(self):
        """About (1/2, 1/3) with the radius's square 13/36 it goes through (0, 0) and (1, 0)."""
        sheet = Sheet()
        half = sheet.over(sheet.number(1), sheet.number(2))
        third = sheet.over(sheet.number(-1), sheet.number(-3))
        centre = sheet.at(half, third)
        circle = sheet.put(11, centre, sheet.over(sheet.number(13), sheet.number(36)))
        for each in (circle, sheet.circle(centre, sheet.point(0, 0))):
            self.side_is(sheet, each, sheet.point(0, 0), ON)
            self.side_is(sheet, each, sheet.point(1, 0), ON)
            self.side_is(sheet, each, sheet.point(0, 1), OUT)
            self.side_is(sheet, each, sheet.at(third, third), WITHIN)

    def test_just_beside(self):
        """The square of the way to (99, 140) is 29,401, that of 99 root 3 is 29,403."""
        sheet = Sheet()
        root = sheet.root_of(3)
        radius = sheet.times(sheet.number(99), root)
        circle = sheet.put(11, sheet.point(0, 0), sheet.times(radius, radius))
        point = sheet.point(99, 140)
        self.side_is(sheet, circle, point, WITHIN)
        more = sheet.minus(sheet.times(radius, radius), sheet.number(2))
        self.side_is(sheet, sheet.put(11, sheet.point(0, 0), more), point, ON)
        more = sheet.minus(more, sheet.over(sheet.number(1), sheet.number(9999)))
        self.side_is(sheet, sheet.put(11, sheet.point(0, 0), more), point, OUT)

    def test_line_and_circle_meet_on_both(self):
        for x, y in DIRECTIONS:
            sheet = Sheet()
            line = sheet.line(sheet.point(1, 0), sheet.point(1 + x, y))
            circles = [sheet.disc(sheet.point(0, -1), 7), sheet.circle(sheet.point(0, -1), sheet.point(3, 1))]
            for circle in circles:
                for v in (0, 1):
                    p = sheet.p + [13, line, circle, v]
                    self.assertEqual(ask(side, line, len(sheet.steps), p), ON)
                    self.assertEqual(ask(side, circle, len(sheet.steps), p), ON)

    def test_circles_meet_on_both(self):
        for x, y in DIRECTIONS:
            sheet = Sheet()
            first = sheet.disc(sheet.point(1, 0), 10)
            second = sheet.circle(sheet.point(1 + x, y), sheet.point(2, 3))
            for a, b in ((first, second), (second, first)):
                for v in (0, 1):
                    p = sheet.p + [14, a, b, v]
                    self.assertEqual(ask(side, first, len(sheet.steps), p), ON)
                    self.assertEqual(ask(side, second, len(sheet.steps), p), ON)

    def test_left_and_right_meeting(self):
        for x, y in DIRECTIONS:
            sheet = Sheet()
            first, second = sheet.point(1, 0), sheet.point(1 + x, y)
            way = sheet.line(first, second)
            left = sheet.apex(first, second, 0)
            right = sheet.apex(first, second, 1)
            self.side_is(sheet, way, left, LEFT)
            self.side_is(sheet, way, right, RIGHT)

    def test_meetings_of_meetings(self):
        """A circle about an apex through one end goes through the other one; within it lies the middle."""
        sheet = Sheet()
        first, second = sheet.point(1, 2), sheet.point(4, 6)
        apex = sheet.apex(first, second)
        circle = sheet.circle(apex, first)
        self.side_is(sheet, circle, second, ON)
        self.side_is(sheet, circle, sheet.middle(first, second), WITHIN)
        other = sheet.shared(circle, sheet.disc(second, 25), 1)
        self.side_is(sheet, circle, other, ON)
        self.side_is(sheet, circle, sheet.middle(other, second), WITHIN)
        self.side_is(sheet, circle, sheet.point(-9, 2), OUT)

    def test_circle_about_a_triangle(self):
        """Where two of the upright halving lines meet lies as far from each of the corners."""
        sheet = Sheet()
        corners = [sheet.point(0, 0), sheet.point(4, 0), sheet.point(2, 6)]
        upright = sheet.line(sheet.point(2, 0), sheet.point(2, 6))
        slanting = sheet.line(sheet.point(1, 3), sheet.point(4, 2))
        circle = sheet.circle(sheet.crossing(upright, slanting), corners[0])
        for corner in corners:
            self.side_is(sheet, circle, corner, ON)

    def test_right_angle_in_a_half_circle(self):
        """A circle over a way as its breadth goes through each corner with a right angle over it."""
        sheet = Sheet()
        left, right = sheet.point(-3, 0), sheet.point(5, 0)
        circle = sheet.circle(sheet.middle(left, right), right)
        slanting = sheet.line(right, sheet.point(0, 2))
        foot = sheet.middle(left, sheet.mirrored(left, slanting))
        self.side_is(sheet, circle, foot, ON)
        self.side_is(sheet, slanting, foot, ON)
        self.assertEqual(ask(level, foot, right, sheet.p), [0])

    def test_mirrored(self):
        """Mirrored in a line through the centre a point stays on the circle, within or out of it."""
        sheet = Sheet()
        centre = sheet.point(1, 1)
        circle = sheet.disc(centre, 13)
        line = sheet.line(centre, sheet.at(sheet.root_of(2), sheet.root_of(3)))
        for at, wanted in (((3, 4), ON), ((4, 3), ON), ((2, 4), WITHIN), ((4, 4), OUT)):
            self.side_is(sheet, circle, sheet.mirrored(sheet.point(*at), line), wanted)

    def test_roots_near_the_greatest_weight(self):
        """A point of a meeting of what a meeting makes, on the circle that it's of; it weighs 6,496."""
        sheet = Sheet()
        first, second = sheet.point(3, 1), sheet.point(-2, 4)
        apex = sheet.apex(first, second)
        about = sheet.circle(apex, first)
        last = sheet.shared(about, sheet.circle(second, first), 0)
        self.assertGreater(sheet.weights[last], 8192 * 3 // 4)
        self.side_is(sheet, about, last, ON)
        self.side_is(sheet, about, second, ON)


class AskedAmiss(unittest.TestCase):
    def setUp(self):
        self.p, self.kinds = two_of_each()
        self.numbers, self.points, self.lines, self.circles = self.kinds

    def test_every_pair(self):
        steps = range(len(self.p) // 4)
        for i in steps:
            for j in steps:
                answer = ask(side, i, j, self.p)
                if i in self.lines + self.circles and j in self.points:
                    self.assertIn(answer, (RIGHT, ON, LEFT))
                else:
                    self.assertEqual(answer, [-6])

    def test_the_other_way_round(self):
        for figure in self.lines + self.circles:
            for point in self.points:
                self.assertNotEqual(ask(side, figure, point, self.p), [-6])
                self.assertEqual(ask(side, point, figure, self.p), [-6])

    def test_past_the_last_step(self):
        count = len(self.p) // 4
        for far in (count, count + 1, len(self.p), 99, 2**32, LARGEST):
            for i in range(count):
                self.assertEqual(ask(side, i, far, self.p), [-6])
                self.assertEqual(ask(side, far, i, self.p), [-6])
            self.assertEqual(ask(side, far, far, self.p), [-6])


if __name__ == "__main__":
    unittest.main()
