"""along: which of two points comes first as a line points."""

import unittest

from rulercircle.desk import along, level, side
from tests.helper import DIRECTIONS, LARGEST, Sheet, ask, two_of_each

BEFORE, ABREAST, BEHIND = [0], [1], [2]


class Along(unittest.TestCase):
    def row_is(self, sheet, line, *points):
        """The points, one behind another as the line points."""
        for first, j in enumerate(points):
            for second, k in enumerate(points):
                wanted = BEFORE if first < second else BEHIND if first > second else ABREAST
                self.assertEqual(ask(along, line, j, k, sheet.p), wanted)

    def abreast(self, sheet, line, j, k):
        self.assertEqual(ask(along, line, j, k, sheet.p), ABREAST)
        self.assertEqual(ask(along, line, k, j, sheet.p), ABREAST)

    def test_common_directions(self):
        for x, y in ((1, 0), (0, 1), (-1, 0), (0, -1), (1, 1), (-1, 1), (-1, -1), (1, -1)):
            sheet = Sheet()
            start, end = sheet.point(0, 0), sheet.point(x, y)
            far = sheet.point(7 * x, 7 * y)
            back = sheet.point(-5 * x, -5 * y)
            self.row_is(sheet, sheet.line(start, end), back, start, end, far)
            self.row_is(sheet, sheet.line(end, start), far, end, start, back)

    def test_beside_the_line(self):
        """Points far to the left and right, which come in the same order as their feet on the line."""
        for x, y in DIRECTIONS:
            sheet = Sheet()
            start, end = sheet.point(1, -2), sheet.point(1 + x, y - 2)
            line, back = sheet.line(start, end), sheet.line(end, start)
            left = sheet.point(1 - 9 * y, 9 * x - 2)
            right = sheet.point(1 + 8 * y, -8 * x - 2)
            self.abreast(sheet, line, left, right)
            self.abreast(sheet, line, left, start)
            self.abreast(sheet, back, start, right)
            self.row_is(sheet, line, left, end)
            self.row_is(sheet, back, end, right)

    def test_many(self):
        for x, y in DIRECTIONS:
            sheet = Sheet()
            line = sheet.line(sheet.point(2, -1), sheet.point(2 + x, y - 1))
            first = sheet.point(1, 2)
            for u in range(-2, 5):
                for v in range(-1, 6):
                    last = len(sheet.steps)
                    p = sheet.p + [0, 0, 0, u, 0, 0, 0, v, 6, last, last + 1, 0]
                    way = x * (u - 1) + y * (v - 2)
                    wanted = [1 + (way > 0) - (way < 0)]
                    self.assertEqual(along(line, last + 2, first, p), wanted)
                    self.assertEqual(along(line, first, last + 2, p), [2 - wanted[0]])

    def test_same_step(self):
        sheet = Sheet()
        line = sheet.line(sheet.point(0, 0), sheet.at(sheet.root_of(2), sheet.root_of(3)))
        point = sheet.at(sheet.root_of(5), sheet.number(-3))
        self.abreast(sheet, line, point, point)

    def test_one_point_in_two_ways(self):
        sheet = Sheet()
        apex = sheet.apex(sheet.point(0, 0), sheet.point(2, 0))
        same = sheet.at(sheet.number(1), sheet.root_of(3))
        for x, y in ((0, 1), (1, 0), (-1, 2), (-3, 2)):
            self.abreast(sheet, sheet.line(sheet.point(2, 0), sheet.point(x, y)), apex, same)

    def test_over_bottoms(self):
        sheet = Sheet()
        half = sheet.over(sheet.number(-1), sheet.number(-2))
        third = sheet.over(sheet.number(1), sheet.number(3))
        diagonal = sheet.line(sheet.at(third, third), sheet.at(half, half))
        self.abreast(sheet, diagonal, sheet.at(third, half), sheet.at(half, third))
        self.row_is(sheet, diagonal, sheet.at(third, third), sheet.at(half, third), sheet.at(half, half))

    def test_first_and_last_meeting(self):
        for x, y in DIRECTIONS:
            sheet = Sheet()
            line = sheet.line(sheet.point(1, 0), sheet.point(1 + x, y))
            circle = sheet.disc(sheet.point(0, -1), 7)
            first, last = sheet.chord(line, circle, 0), sheet.chord(line, circle, 1)
            self.row_is(sheet, line, first, sheet.point(1, 0), last)
            self.abreast(sheet, line, sheet.middle(first, last), sheet.point(0, -1))

    def test_touching(self):
        sheet = Sheet()
        line = sheet.line(sheet.point(7, 1), sheet.point(-1, 7))
        circle = sheet.disc(sheet.point(0, 0), 25)
        self.abreast(sheet, line, sheet.chord(line, circle, 0), sheet.chord(line, circle, 1))
        self.abreast(sheet, line, sheet.chord(line, circle, 1), sheet.point(0, 0))

    def test_meetings_of_circles(self):
        """Both lie abreast along the way of the centres; for like circles with the middle, too."""
        for x, y in DIRECTIONS:
            sheet = Sheet()
            first, second = sheet.point(1, 0), sheet.point(1 + x, y)
            way = sheet.line(first, second)
            left, right = sheet.apex(first, second, 0), sheet.apex(first, second, 1)
            self.abreast(sheet, way, left, right)
            self.abreast(sheet, way, right, sheet.middle(first, second))
            self.row_is(sheet, way, first, left, second)
            self.row_is(sheet, sheet.line(right, left), right, first, left)

    def test_unlike_circles(self):
        sheet = Sheet()
        first, second = sheet.point(0, 0), sheet.point(3, 1)
        way = sheet.line(first, second)
        circles = [sheet.disc(first, 7), sheet.disc(second, 5)]
        left, right = sheet.shared(*circles, 0), sheet.shared(*circles, 1)
        self.abreast(sheet, way, left, right)
        self.abreast(sheet, way, left, sheet.point(2, 0))
        self.row_is(sheet, way, sheet.middle(first, second), left, second)

    def test_mirrored(self):
        """A point, its image and its foot on the line are abreast."""
        sheet = Sheet()
        line = sheet.line(sheet.point(-1, 1), sheet.at(sheet.root_of(2), sheet.root_of(5)))
        point = sheet.point(3, 7)
        image = sheet.mirrored(point, line)
        self.abreast(sheet, line, image, point)
        self.abreast(sheet, line, image, sheet.middle(point, image))
        self.row_is(sheet, line, sheet.point(-1, 1), image)

    def test_height_of_a_triangle(self):
        """Where the heights meet and each corner are abreast along the side across."""
        sheet = Sheet()
        corners = [sheet.point(0, 0), sheet.point(5, 1), sheet.point(2, 4)]
        heights = sheet.heights(corners)
        middle = sheet.crossing(heights[0], heights[1])
        self.abreast(sheet, sheet.line(corners[0], corners[1]), middle, corners[2])

    def test_differing_by_very_little(self):
        """Along (root 2, -1) the points (70, 99) and (0, 0): 70 root 2 is just below 99."""
        sheet = Sheet()
        start = sheet.point(0, 0)
        line = sheet.line(start, sheet.at(sheet.root_of(2), sheet.number(-1)))
        self.row_is(sheet, line, sheet.point(70, 99), start, sheet.point(29, 41))
        self.row_is(sheet, line, sheet.point(-29, -41), start, sheet.point(-70, -99))

    def test_near_the_greatest_weight(self):
        """A point of a meeting of what a meeting makes, and the middle of the centres."""
        sheet = Sheet()
        first, second = sheet.point(3, 1), sheet.point(-2, 4)
        apex = sheet.apex(first, second)
        last = sheet.shared(sheet.circle(apex, first), sheet.circle(second, first), 0)
        self.assertGreater(sheet.weights[last], 8192 * 3 // 4)
        way = sheet.line(apex, second)
        self.abreast(sheet, way, last, sheet.middle(apex, second))
        self.row_is(sheet, way, apex, last, second)


class AskedAmiss(unittest.TestCase):
    def setUp(self):
        self.p, self.kinds = two_of_each()

    def test_every_three(self):
        numbers, points, lines, circles = self.kinds
        steps = range(len(self.p) // 4)
        for i in steps:
            for j in steps:
                for k in steps:
                    answer = along(i, j, k, self.p)
                    if i in lines and j in points and k in points:
                        self.assertIn(answer, (BEFORE, ABREAST, BEHIND))
                    else:
                        self.assertEqual(answer, [-6])

    def test_past_the_last_step(self):
        point, line = self.kinds[1][0], self.kinds[2][0]
        count = len(self.p) // 4
        self.assertEqual(ask(along, line, point, point, self.p), ABREAST)
        for far in (count, count + 1, len(self.p), 99, 2**32, LARGEST):
            self.assertEqual(ask(along, far, point, point, self.p), [-6])
            self.assertEqual(ask(along, line, far, point, self.p), [-6])
            self.assertEqual(ask(along, line, point, far, self.p), [-6])
            self.assertEqual(ask(along, far, far, far, self.p), [-6])

    def test_other_calls_answer_still(self):
        points, lines = self.kinds[1:3]
        self.assertEqual(ask(level, points[0], points[1], self.p), [0])
        self.assertEqual(ask(side, lines[0], points[1], self.p), [1])


if __name__ == "__main__":
    unittest.main()
