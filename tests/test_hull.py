"""hull: the corners of points' hull, by their places."""

import itertools
import math
import random
import unittest

from rulercircle.desk import hull, kind
from tests.helper import LARGEST, Sheet, ask, two_of_each


def between(a, b, c):
    """Whether c lies between a and b, in one row with them."""
    if turned(a, b, c) != 0:
        return False
    return min(a, b) < c < max(a, b)


def turned(a, b, c):
    return (b[0] - a[0]) * (c[1] - a[1]) - (b[1] - a[1]) * (c[0] - a[0])


def within(a, b, c, d):
    """Whether d lies strictly within the triangle."""
    sides = [turned(a, b, d), turned(b, c, d), turned(c, a, d)]
    return min(sides) > 0 or max(sides) < 0


def is_corner(points, point):
    others = [other for other in points if other != point]
    if any(between(a, b, point) for a, b in itertools.combinations(others, 2)):
        return False
    return not any(within(a, b, c, point) for a, b, c in itertools.combinations(others, 3))


def corners_of(row):
    """The answer for a row of whole points, straight from what a corner is."""
    points = set(row)
    corners = [point for point in points if is_corner(points, point)]
    first = min(corners, key=lambda point: (point[1], point[0]))
    corners.remove(first)
    corners.sort(key=lambda point: math.atan2(point[1] - first[1], point[0] - first[0]))
    places = [row.index(point) for point in [first] + corners]
    return [len(places), len(places)] + places


class Hull(unittest.TestCase):
    def of_points(self, *row):
        sheet = Sheet()
        places = [sheet.point(x, y) for x, y in row]
        return ask(hull, sheet.p, places)

    def corners(self, row, *corners):
        self.assertEqual(self.of_points(*row), [len(corners), len(corners), *corners])

    def corners_in(self, sheet, places, *corners):
        self.assertEqual(ask(hull, sheet.p, places), [len(corners), len(corners), *corners])


class WholePoints(Hull):
    def test_one_place(self):
        self.corners([(3, 4)], 0)

    def test_one_point_many_times(self):
        for count in (2, 3, 16):
            self.corners([(3, 4)] * count, 0)

    def test_two_points(self):
        self.corners([(0, 0), (1, 1)], 0, 1)
        self.corners([(1, 1), (0, 0)], 1, 0)
        self.corners([(1, 0), (0, 0)], 1, 0)
        self.corners([(0, 0), (1, 0)], 0, 1)
        self.corners([(0, 1), (0, 0)], 1, 0)
        self.corners([(0, 1), (1, 0)], 1, 0)
        self.corners([(-5, 2), (3, 2), (-5, 2), (3, 2)], 0, 1)

    def test_row(self):
        for x, y in ((1, 0), (0, 1), (1, 1), (2, 1), (-1, 1), (-3, 1)):
            for order in itertools.permutations(range(4)):
                row = [(k * x, k * y) for k in order]
                self.corners(row, order.index(0), order.index(3))

    def test_level_row(self):
        """The leftmost of the lowest first."""
        self.corners([(2, 5), (7, 5), (-1, 5), (3, 5)], 2, 1)
        self.corners([(7, 5), (2, 5), (7, 5), (-1, 5), (-1, 5)], 3, 0)

    def test_triangle(self):
        """Round to the left, whichever way they are told."""
        corners = [(0, 0), (4, 1), (1, 5)]
        for order in itertools.permutations(range(3)):
            row = [corners[k] for k in order]
            self.corners(row, *[order.index(k) for k in range(3)])

    def test_two_lowest(self):
        self.corners([(4, 0), (0, 0), (1, 5)], 1, 0, 2)
        self.corners([(4, 0), (2, 0), (0, 0), (1, 5)], 2, 0, 3)
        self.corners([(1, -5), (4, 0), (0, 0)], 0, 1, 2)

    def test_square(self):
        square = [(0, 0), (4, 0), (4, 4), (0, 4)]
        edges = [(2, 0), (4, 1), (3, 4), (0, 2)]
        middle = [(2, 2), (1, 3)]
        self.corners(square, 0, 1, 2, 3)
        self.corners(square[::-1], 3, 2, 1, 0)
        self.corners(edges + middle + square, 6, 7, 8, 9)
        self.corners(square + edges + middle, 0, 1, 2, 3)
        self.corners(middle[:1] + edges, 1, 2, 3, 4)

    def test_places_that_are_one_point(self):
        square = [(4, 4), (0, 0), (4, 0), (0, 0), (4, 4), (0, 4), (4, 0)]
        self.corners(square, 1, 2, 0, 5)
        self.corners([(2, 2), (2, 2)] + square, 3, 4, 2, 7)

    def test_sixteen(self):
        """All corners of a wide round, and all within it."""
        wide = [(0, -9), (3, -8), (6, -6), (8, -3), (9, 0), (8, 3), (6, 6), (3, 8)]
        wide += [(-x, -y) for x, y in wide]
        for shift in (0, 1, 7, 15):
            row = wide[shift:] + wide[:shift]
            self.corners(row, *[(k - shift) % 16 for k in range(16)])
            self.corners(row[::-1], *[(shift - 1 - k) % 16 for k in range(16)])
        grid = [(x, y) for x in (0, 1, 2, 3) for y in (0, 1, 2, 3)]
        self.corners(grid, 0, 12, 15, 3)

    def test_just_a_corner(self):
        """(4999, 5000) lies on the left of the way from (0, 0) to (9998, 9999), (5000, 5000) on its right."""
        self.corners([(0, 0), (9998, 9999), (4999, 5000)], 0, 1, 2)
        self.corners([(0, 0), (9998, 9999), (5000, 5000)], 0, 2, 1)
        self.corners([(0, 0), (9998, 9998), (4999, 4999)], 0, 1)

    def test_by_chance(self):
        chance = random.Random(4)
        for size in (1, 2, 4):
            for _ in range(150):
                count = chance.randint(1, 16)
                row = [(chance.randint(-size, size), chance.randint(-size, size)) for _ in range(count)]
                if len(set(row)) + len(set(itertools.chain(*row))) <= 32:
                    self.assertEqual(self.of_points(*row), corners_of(row), row)

    def test_moved_turned_enlarged(self):
        """The corners stay; which is the first of them hangs on the turn."""
        chance = random.Random(5)
        for _ in range(60):
            row = [(chance.randint(-3, 3), chance.randint(-3, 3)) for _ in range(8)]
            here = self.of_points(*row)
            self.assertEqual(self.of_points(*[(x + 100, y - 70) for x, y in row]), here)
            self.assertEqual(self.of_points(*[(31 * x, 31 * y) for x, y in row]), here)
            for x, y in ((0, 1), (-1, 0), (3, 4), (5, -12)):
                there = self.of_points(*[(u * x - v * y, u * y + v * x) for u, v in row])
                self.assertEqual(there[:2], here[:2])
                first = here[2:].index(there[2])
                self.assertEqual(there[2:], here[2:][first:] + here[2:][:first])


class ByRoots(Hull):
    def octagon(self):
        sheet = Sheet()
        zero, two, less = sheet.number(0), sheet.number(2), sheet.number(-2)
        root = sheet.root(two)
        minus = sheet.minus(zero, root)
        pairs = ((zero, less), (root, minus), (two, zero), (root, root))
        pairs += ((zero, two), (minus, root), (less, zero), (minus, minus))
        return sheet, [sheet.at(*pair) for pair in pairs]

    def test_octagon(self):
        sheet, corners = self.octagon()
        self.corners_in(sheet, corners, *range(8))
        self.corners_in(sheet, corners[::-1], *range(7, -1, -1))
        self.corners_in(sheet, corners[3:] + corners[:3], 5, 6, 7, 0, 1, 2, 3, 4)

    def test_octagon_with_middles(self):
        """The middles of its edges lie between corners, and of its chords within."""
        sheet, corners = self.octagon()
        middles = [sheet.middle(corners[k], corners[(k + 1) % 8]) for k in range(4)]
        inner = [sheet.middle(corners[0], corners[4]), sheet.middle(corners[1], corners[3])]
        self.corners_in(sheet, inner + middles + corners, *range(6, 14))
        self.corners_in(sheet, middles, 0, 1, 2, 3)

    def test_nearly_in_one_row(self):
        """From (0, 0) to (99, 140) and (70, 99): (1, root 2) lies beside these ways."""
        sheet = Sheet()
        start, root = sheet.point(0, 0), sheet.at(sheet.number(1), sheet.root_of(2))
        under, over = sheet.point(99, 140), sheet.point(70, 99)
        self.corners_in(sheet, [start, root, over], 0, 1, 2)
        self.corners_in(sheet, [start, root, under], 0, 2, 1)
        far = sheet.at(sheet.root_of(2), sheet.number(2))
        self.corners_in(sheet, [start, root, far], 0, 2)

    def test_meetings_in_one_row(self):
        """Both meetings of two like circles and the middle of their centres."""
        sheet = Sheet()
        first, second = sheet.point(1, 2), sheet.point(5, 4)
        left, right = sheet.apex(first, second, 0), sheet.apex(first, second, 1)
        middle = sheet.middle(first, second)
        self.corners_in(sheet, [middle, left, right], 2, 1)
        self.corners_in(sheet, [left, middle, right, middle], 2, 0)
        self.corners_in(sheet, [left, second, middle, right, first], 3, 1, 0, 4)

    def test_one_by_a_theorem(self):
        sheet = Sheet()
        first, second = sheet.point(0, 0), sheet.point(2, 0)
        apex = sheet.apex(first, second)
        same = sheet.at(sheet.number(1), sheet.root_of(3))
        self.corners_in(sheet, [apex, same], 0)
        self.corners_in(sheet, [same, apex, same], 0)
        self.corners_in(sheet, [same, second, apex, first, apex], 3, 1, 0)
        self.corners_in(sheet, [apex, same, second, first], 3, 2, 0)
        self.corners_in(sheet, [first, same, apex], 0, 1)

    def test_level_by_a_theorem(self):
        """The ends of a chord are as low as their middle; the leftmost is the first, the others' order hangs on it."""
        sheet = Sheet()
        line = sheet.line(sheet.point(0, 1), sheet.point(1, 1))
        circle = sheet.disc(sheet.point(0, 0), 3)
        left, right = sheet.chord(line, circle, 0), sheet.chord(line, circle, 1)
        top = sheet.point(0, 3)
        self.corners_in(sheet, [right, top, left, sheet.point(0, 1)], 2, 0, 1)

    def test_lowest_by_very_little(self):
        """140 / 99 is below root 2, 99 / 70 above it; and the middle of these two above it, too."""
        sheet = Sheet()
        one = sheet.number(1)
        points = [
            sheet.at(one, sheet.over(sheet.number(99), sheet.number(70))),
            sheet.at(sheet.number(0), sheet.root_of(2)),
            sheet.at(sheet.number(-1), sheet.over(sheet.number(140), sheet.number(99))),
            sheet.point(0, 5),
        ]
        self.corners_in(sheet, points[:2] + points[3:], 1, 0, 2)
        self.corners_in(sheet, points, 2, 1, 0, 3)
        self.corners_in(sheet, [sheet.middle(points[0], points[2])] + points[1:], 2, 1, 3)

    def test_hexagon_round_a_centre(self):
        sheet = Sheet()
        zero = sheet.number(0)
        half = sheet.root(sheet.over(sheet.number(3), sheet.number(4)))
        under = sheet.minus(zero, half)
        bit = sheet.over(sheet.number(1), sheet.number(2))
        less = sheet.minus(zero, bit)
        rows = ((less, under), (bit, under), (sheet.number(1), zero))
        rows += ((bit, half), (less, half), (sheet.number(-1), zero))
        points = [sheet.at(*row) for row in rows]
        self.corners_in(sheet, [sheet.at(zero, zero)] + points, *range(1, 7))
        self.corners_in(sheet, points * 2, *range(6))

    def test_heavy_meetings(self):
        """The circles about two corners of a triangle of equal sides meet in the third, and across."""
        for v, wanted, with_middle in ((0, (0, 1, 2), (2, 0, 1)), (1, (3, 1, 0, 2), (3, 0, 2, 1))):
            sheet = Sheet()
            first, second = sheet.point(3, 1), sheet.point(-2, 4)
            apex = sheet.apex(first, second, 1)
            last = sheet.shared(sheet.circle(apex, first), sheet.circle(second, first), v)
            self.assertGreater(sheet.weights[last], 7800)
            self.corners_in(sheet, [last, apex, second, first], *wanted)
            middle = sheet.middle(apex, second)
            self.corners_in(sheet, [apex, second, last, first, middle], *with_middle)
            self.corners_in(sheet, [middle, apex, second], 2, 1)


class Bounds(Hull):
    def test_how_many_places(self):
        sheet = Sheet()
        points = [sheet.point(0, 0), sheet.point(1, 0), sheet.point(0, 1)]
        self.assertEqual(ask(hull, sheet.p, []), [-6])
        self.assertEqual(ask(hull, sheet.p, points[:1]), [1, 1, 0])
        self.assertEqual(ask(hull, sheet.p, (points * 6)[:16]), [3, 3, 0, 1, 2])
        self.assertEqual(ask(hull, sheet.p, (points * 6)[:17]), [-6])
        self.assertEqual(ask(hull, sheet.p, (points * 34)[:100]), [-6])

    def test_past_the_last_step(self):
        sheet = Sheet()
        points = [sheet.point(0, 0), sheet.point(1, 0), sheet.point(0, 1)]
        count = len(sheet.steps)
        self.assertEqual(points[-1], count - 1)
        for far in (count, count + 1, 4 * count, 99, 2**32, LARGEST):
            for place in range(4):
                places = points[:place] + [far] + points[place:]
                self.assertEqual(ask(hull, sheet.p, places), [-6])
            self.assertEqual(ask(hull, sheet.p, [far]), [-6])

    def test_no_point(self):
        p, (numbers, points, lines, circles) = two_of_each()
        self.assertEqual(ask(hull, p, points), [2, 2, 0, 1])
        for other in numbers + lines + circles:
            self.assertEqual(ask(hull, p, [other]), [-6])
            for place in range(3):
                self.assertEqual(ask(hull, p, points[:place] + [other] + points[place:]), [-6])

    def of_weight(self, sheet, weight):
        """Two points that weigh so much, and one more."""
        base = sheet.heavy(weight - 28)
        one = sheet.number(1)
        points = [sheet.at(number, one) for number in (sheet.times(base, one), sheet.plus(base, one))]
        self.assertEqual([sheet.weights[point] for point in points], [weight, weight + 1])
        return points

    def test_sixteen_places_of_the_greatest_weight(self):
        sheet = Sheet()
        light, heavy = self.of_weight(sheet, 1024)
        self.corners_in(sheet, [light] * 16, 0)
        self.assertEqual(ask(hull, sheet.p, [light] * 15 + [heavy]), [-6])
        self.assertEqual(ask(hull, sheet.p, [heavy] + [light] * 15), [-6])
        self.corners_in(sheet, [heavy] * 15, 0)
        self.assertEqual(ask(hull, sheet.p, [light] * 17), [-6])

    def test_the_same_step_counts_each_time(self):
        for weight, count in ((2048, 8), (4096, 4), (8191, 2)):
            sheet = Sheet()
            light, heavy = self.of_weight(sheet, weight)
            self.corners_in(sheet, [light] * count, 0)
            if weight != 8191:
                self.assertEqual(ask(hull, sheet.p, [light] * (count - 1) + [heavy]), [-6])
            self.assertEqual(ask(hull, sheet.p, [light] * (count + 1)), [-6])

    def test_twice_a_step_of_the_greatest_weight(self):
        sheet = Sheet()
        heavy = self.of_weight(sheet, 8191)[1]
        self.corners_in(sheet, [heavy, heavy], 0)
        self.assertEqual(ask(hull, sheet.p, [heavy, heavy, sheet.point(0, 0)]), [-6])

    def test_first_too_heavy_then_no_point(self):
        """One and the same refusal, whatever is amiss first."""
        sheet = Sheet()
        heavy = self.of_weight(sheet, 8191)[1]
        for places in ([heavy] * 17, [heavy, heavy, heavy, 0], [0, heavy, heavy, heavy], [heavy, heavy, heavy, 99]):
            self.assertEqual(ask(hull, sheet.p, places), [-6])

    def test_only_weights_of_places_count(self):
        sheet = Sheet()
        self.of_weight(sheet, 8191)
        point = sheet.point(1, 1)
        self.corners_in(sheet, [point] * 16, 0)
        self.assertEqual(kind(0, sheet.p), [0])


if __name__ == "__main__":
    unittest.main()
