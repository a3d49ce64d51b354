"""-1 by weight: of every row of the table a step of just the greatest weight, and one above it."""

import unittest

from rulercircle.desk import kind
from tests.helper import CIRCLE, LINE, NUMBER, POINT, Sheet


def of_numbers(sheet, both):
    """Two numbers that weigh so much together, the first the heavier one."""
    return sheet.heavy(both - 14), sheet.number(1)


def of_points(sheet, both):
    """Two points, not in one place."""
    return sheet.at(sheet.heavy(both - 42), sheet.number(3)), sheet.point(-7, -9)


def of_point_and_number(sheet, both):
    return sheet.at(sheet.heavy(both - 28), sheet.number(3)), sheet.number(5)


def of_lines(sheet, both):
    first = sheet.line(*of_points(sheet, both - 56))
    return first, sheet.line(sheet.point(0, 0), sheet.point(-1, 5))


def of_line_and_circle(sheet, both):
    """The circle is about a point of the line, so that they meet."""
    points = of_points(sheet, both - 42)
    return sheet.line(*points), sheet.disc(points[1], 5)


def of_circles(sheet, both):
    """Both through one point, so that they meet."""
    points = of_points(sheet, both - 56)
    return sheet.circle(*points), sheet.circle(sheet.point(-7, -8), points[1])


def of_point_and_line(sheet, both):
    points = of_points(sheet, both - 28)
    return sheet.point(1, 2), sheet.line(*points)


# By op: its things, how much they weigh together at most, and the kind that's made.
EDGES = {
    1: (of_numbers, 8191, NUMBER),
    2: (of_numbers, 8191, NUMBER),
    3: (of_numbers, 8192, NUMBER),
    4: (of_numbers, 8192, NUMBER),
    6: (of_numbers, 8192, POINT),
    9: (of_points, 8192, LINE),
    10: (of_points, 8192, CIRCLE),
    11: (of_point_and_number, 8192, CIRCLE),
    12: (of_lines, 2048, POINT),
    13: (of_line_and_circle, 1024, POINT),
    14: (of_circles, 1024, POINT),
    15: (of_points, 8192, POINT),
    16: (of_point_and_line, 1024, POINT),
    17: (of_points, 4096, NUMBER),
}


class Weights(unittest.TestCase):
    def drawn(self, op, both):
        sheet = Sheet()
        a, b = EDGES[op][0](sheet, both)
        return sheet.put(op, a, b), sheet.p

    def test_greatest(self):
        for op, edge in EDGES.items():
            with self.subTest(op=op):
                last, p = self.drawn(op, edge[1])
                self.assertEqual(kind(last, p), [edge[2]])

    def test_one_above(self):
        for op, edge in EDGES.items():
            with self.subTest(op=op):
                last, p = self.drawn(op, edge[1] + 1)
                self.assertEqual(kind(last, p), [-1, 1, last])

    def test_heavier_one_second(self):
        for op in (1, 2, 3, 4, 6, 9, 10, 12, 14, 15, 17):
            with self.subTest(op=op):
                sheet = Sheet()
                a, b = EDGES[op][0](sheet, EDGES[op][1])
                self.assertEqual(kind(sheet.put(op, b, a), sheet.p), [EDGES[op][2]])
                sheet = Sheet()
                a, b = EDGES[op][0](sheet, EDGES[op][1] + 1)
                last = sheet.put(op, b, a)
                self.assertEqual(kind(last, sheet.p), [-1, 1, last])

    def test_weight_that_is_handed_on(self):
        """Light things' weights, told by how much can be put to them."""
        for op, both, weight in (
            (1, 28, 29),
            (2, 28, 29),
            (3, 28, 28),
            (4, 28, 28),
            (6, 28, 28),
            (12, 112, 448),
            (13, 98, 784),
            (14, 112, 896),
            (15, 56, 56),
            (16, 84, 672),
            (17, 56, 112),
        ):
            for more, fits in ((0, True), (1, False)):
                with self.subTest(op=op, more=more):
                    sheet = Sheet()
                    last = sheet.put(op, *EDGES[op][0](sheet, both))
                    if EDGES[op][2] == POINT:
                        last = sheet.put(7, last)
                    last = sheet.times(last, sheet.heavy(8192 - weight + more))
                    self.assertEqual(kind(last, sheet.p), [NUMBER] if fits else [-1, 1, last])

    def test_same_thing_twice(self):
        sheet = Sheet()
        half = sheet.heavy(4096)
        whole = sheet.times(half, half)
        self.assertEqual(kind(whole, sheet.p), [NUMBER])
        last = sheet.plus(half, half)
        self.assertEqual(kind(whole, sheet.p), [-1, 1, last])

    def test_weight_of_a_alone(self):
        """Ops 5, 7, 8 weigh what a weighs: all of the greatest weight is left, and none more."""
        sheet = Sheet()
        root = sheet.root(sheet.heavy(8192 - 14))
        last = sheet.times(root, sheet.number(1))
        self.assertEqual(kind(last, sheet.p), [NUMBER])
        last = sheet.plus(root, sheet.number(1))
        self.assertEqual(kind(0, sheet.p), [-1, 1, last])
        for op in (7, 8):
            sheet = Sheet()
            number = sheet.put(op, sheet.at(sheet.heavy(8192 - 28), sheet.number(1)))
            last = sheet.times(number, sheet.number(1))
            self.assertEqual(kind(last, sheet.p), [NUMBER])
            last = sheet.plus(number, sheet.number(1))
            self.assertEqual(kind(0, sheet.p), [-1, 1, last])

    def test_greatest_weight_itself(self):
        sheet = Sheet()
        sheet.root(sheet.heavy(8192))
        point = sheet.at(sheet.heavy(8192 - 14), sheet.number(1))
        sheet.put(7, point)
        last = sheet.put(8, point)
        self.assertEqual(kind(last, sheet.p), [NUMBER])

    def test_weight_of_a_told_number(self):
        """Whatever v is, op 0 weighs 14, and 585 of them 8,190."""
        for v in (0, 1, -9999):
            sheet = Sheet()
            last = sheet.number(v)
            for more in (0, 0, 1, 0, 0, 1, 0, 0, 1):
                last = sheet.times(last, last)
                if more:
                    last = sheet.times(last, sheet.number(v))
            self.assertEqual(kind(last, sheet.p), [NUMBER])
            last = sheet.times(last, sheet.number(v))
            self.assertEqual(kind(0, sheet.p), [-1, 1, last])


if __name__ == "__main__":
    unittest.main()
