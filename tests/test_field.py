"""field: twice the field within a way round points, as a double."""

import itertools
import random
import unittest

from rulercircle.desk import field, value
from tests.helper import GREATEST, INFINITE, LARGEST, MINUS, Sheet, ask, bits, two_of_each


def by_modes(p, places):
    """The bits by modes 0, 1, 2, 3."""
    given = [ask(field, mode, p, places) for mode in range(4)]
    if any(answer[:2] != [0, 1] or len(answer) != 3 for answer in given):
        raise AssertionError(f"refused: {given}")
    return [answer[2] for answer in given]


def shoelace(row):
    return sum(x * v - u * y for (x, y), (u, v) in zip(row, row[1:] + row[:1]))


class Fields(unittest.TestCase):
    def field_is(self, sheet, places, double):
        """Just this double, the same by all modes."""
        self.assertEqual(by_modes(sheet.p, places), [bits(double)] * 4)

    def both_ways(self, sheet, places, nearest, inwards, outwards):
        """The modes for a way round to the left, and for the same to the right."""
        self.assertEqual(by_modes(sheet.p, places), [nearest, inwards, outwards, inwards])
        less = [MINUS + nearest, MINUS + outwards, MINUS + inwards, MINUS + inwards]
        self.assertEqual(by_modes(sheet.p, places[::-1]), less)

    def like_number(self, sheet, places, i):
        """The same doubles as the number of step i has."""
        self.assertEqual(by_modes(sheet.p, places), [value(i, mode, sheet.p)[2] for mode in range(4)])

    def of_points(self, row):
        sheet = Sheet()
        return sheet, [sheet.point(x, y) for x, y in row]


class WholePoints(Fields):
    def test_triangle(self):
        sheet, places = self.of_points([(0, 0), (4, 1), (1, 5)])
        self.field_is(sheet, places, 19.0)
        self.field_is(sheet, places[::-1], -19.0)
        self.field_is(sheet, places[1:] + places[:1], 19.0)
        self.field_is(sheet, places[2:] + places[:2], 19.0)

    def test_square(self):
        sheet, places = self.of_points([(1, 1), (4, 1), (4, 4), (1, 4)])
        self.field_is(sheet, places, 18.0)
        self.field_is(sheet, places[::-1], -18.0)

    def test_away_from_the_origin(self):
        for x, y in ((9000, 9000), (-9000, 70), (0, -9900)):
            sheet, places = self.of_points([(x, y), (x + 1, y), (x, y + 1)])
            self.field_is(sheet, places, 1.0)
            self.field_is(sheet, places[::-1], -1.0)

    def test_crossing_itself(self):
        """A bow: what goes round to the left and what to the right are counted against one another."""
        sheet, places = self.of_points([(0, 0), (2, 2), (2, 0), (0, 2)])
        self.field_is(sheet, places, 0.0)
        sheet, places = self.of_points([(0, 0), (4, 4), (4, 0), (0, 2)])
        self.field_is(sheet, places, -8.0)
        star = [(0, -9), (5, 8), (-9, -2), (9, -2), (-5, 8)]
        sheet, places = self.of_points(star)
        self.field_is(sheet, places, float(shoelace(star)))

    def test_dented(self):
        sheet, places = self.of_points([(0, 0), (4, 0), (1, 1), (0, 4)])
        self.field_is(sheet, places, 8.0)

    def test_twice_round(self):
        sheet, places = self.of_points([(0, 0), (3, 0), (0, 3)])
        self.field_is(sheet, places * 2, 18.0)
        self.field_is(sheet, places * 5, 45.0)
        self.field_is(sheet, places[::-1] * 5, -45.0)

    def test_places_that_stand_more_than_once(self):
        sheet, places = self.of_points([(0, 0), (3, 0), (0, 3)])
        a, b, c = places
        self.field_is(sheet, [a, a, b, b, b, c, c, a], 9.0)
        self.field_is(sheet, [a, b, a, b, c], 9.0)
        self.field_is(sheet, [a, b, c, a, c, b], 0.0)

    def test_nothing(self):
        """+0, by every mode and either way round."""
        for row in (
            [(0, 0), (1, 1), (2, 2)],
            [(5, 5), (1, 1), (2, 2), (-3, -3)],
            [(3, -7)] * 3,
            [(3, -7)] * 16,
            [(0, 0), (5, 1), (3, 8), (5, 1)],
            [(1, 2), (3, 4), (1, 2)],
        ):
            sheet, places = self.of_points(row)
            self.field_is(sheet, places, 0.0)
            self.field_is(sheet, places[::-1], 0.0)

    def test_three_and_sixteen(self):
        wide = [(0, -9), (3, -8), (6, -6), (8, -3), (9, 0), (8, 3), (6, 6), (3, 8)]
        wide += [(-x, -y) for x, y in wide]
        sheet, places = self.of_points(wide)
        self.field_is(sheet, places, float(shoelace(wide)))
        self.field_is(sheet, places[::-1], -float(shoelace(wide)))
        self.field_is(sheet, places[:3], float(shoelace(wide[:3])))

    def test_by_chance(self):
        chance = random.Random(6)
        for size in (1, 3, 9999):
            for _ in range(100):
                row = [(chance.randint(-size, size), chance.randint(-size, size)) for _ in range(chance.randint(3, 9))]
                if len(set(row)) + len(set(itertools.chain(*row))) <= 32:
                    sheet, places = self.of_points(row)
                    self.field_is(sheet, places, float(shoelace(row)))


class BetweenDoubles(Fields):
    def triangle(self, sheet, x, y=None):
        """A triangle, twice whose field is x, or x times y."""
        zero = sheet.number(0)
        y = sheet.number(1) if y is None else y
        return [sheet.at(zero, zero), sheet.at(x, zero), sheet.at(zero, y)]

    def test_third(self):
        sheet = Sheet()
        places = self.triangle(sheet, sheet.over(sheet.number(1), sheet.number(3)))
        self.both_ways(sheet, places, bits(1 / 3), bits(1 / 3), bits(1 / 3) + 1)

    def test_tenth(self):
        sheet = Sheet()
        places = self.triangle(sheet, sheet.over(sheet.number(-1), sheet.number(-10)))
        self.both_ways(sheet, places, bits(0.1), bits(0.1) - 1, bits(0.1))

    def test_root(self):
        sheet = Sheet()
        places = self.triangle(sheet, sheet.root_of(2))
        self.both_ways(sheet, places, bits(2**0.5), bits(2**0.5) - 1, bits(2**0.5))

    def test_half_way(self):
        one = bits(1.0)
        for quarters, nearest, inwards, outwards in (
            (2, one, one, one + 1),
            (6, one + 2, one + 1, one + 2),
            (1, one, one, one + 1),
            (3, one + 1, one, one + 1),
            (4, one + 1, one + 1, one + 1),
            (-1, one, one - 1, one),
            (-2, one - 1, one - 1, one - 1),
        ):
            sheet = Sheet()
            bit = sheet.over(sheet.number(quarters), sheet.power_of_two(54))
            places = self.triangle(sheet, sheet.plus(sheet.number(1), bit))
            self.both_ways(sheet, places, nearest, inwards, outwards)

    def test_beside_half_way(self):
        one = bits(1.0)
        for add, nearest in ((1, one + 1), (-1, one)):
            sheet = Sheet()
            half = sheet.over(sheet.number(1), sheet.power_of_two(53))
            bit = sheet.over(sheet.number(add), sheet.power_of_two(500))
            places = self.triangle(sheet, sheet.plus(sheet.plus(sheet.number(1), half), bit))
            self.both_ways(sheet, places, nearest, one, one + 1)

    def test_half_way_by_a_theorem(self):
        """root 2 by root 2, and half a bit of 2 by a triangle more."""
        sheet = Sheet()
        root = sheet.root_of(2)
        bit = sheet.over(sheet.number(1), sheet.power_of_two(52))
        places = self.triangle(sheet, root, root)
        places += [places[0], sheet.at(bit, sheet.number(0)), sheet.point(0, 1)]
        self.both_ways(sheet, places, bits(2.0), bits(2.0), bits(2.0) + 1)

    def test_too_small(self):
        for first, second, inwards, nearest in ((600, 600, 0, 0), (1000, 75, 0, 0), (1000, 74, 1, 1)):
            sheet = Sheet()
            x, y = [sheet.over(sheet.number(1), sheet.power_of_two(e)) for e in (first, second)]
            self.both_ways(sheet, self.triangle(sheet, x, y), nearest, inwards, 1)

    def test_too_large(self):
        sheet = Sheet()
        large = sheet.power_of_two(600)
        self.both_ways(sheet, self.triangle(sheet, large, large), INFINITE, GREATEST, INFINITE)
        sheet = Sheet()
        large = sheet.power_of_two(512)
        self.both_ways(sheet, self.triangle(sheet, large, large), INFINITE, GREATEST, INFINITE)
        sheet = Sheet()
        places = self.triangle(sheet, sheet.power_of_two(512), sheet.power_of_two(511))
        self.both_ways(sheet, places, bits(2.0**1023), bits(2.0**1023), bits(2.0**1023))

    def test_over_bottoms(self):
        """Each point over another bottom; 30 times as large all are whole."""
        sheet = Sheet()
        one = sheet.number(1)
        half, third, fifth = [sheet.over(one, sheet.number(v)) for v in (2, -3, 5)]
        places = [sheet.at(half, third), sheet.at(fifth, half), sheet.at(third, fifth), sheet.at(one, fifth)]
        enlarged = [(15, -10), (6, 15), (-10, 6), (30, 6)]
        self.like_number(sheet, places, sheet.over(sheet.number(shoelace(enlarged)), sheet.number(900)))


class ByMeetings(Fields):
    def test_triangle_of_equal_sides(self):
        """Of side 2: twice the field is root 12."""
        sheet = Sheet()
        first, second = sheet.point(0, 0), sheet.point(2, 0)
        apex, under = sheet.apex(first, second, 0), sheet.apex(first, second, 1)
        root = sheet.root_of(12)
        less = sheet.minus(sheet.number(0), root)
        self.like_number(sheet, [first, second, apex], root)
        self.like_number(sheet, [second, first, under], root)
        self.like_number(sheet, [second, first, apex], less)
        self.like_number(sheet, [first, under, second, apex], sheet.plus(root, root))
        self.like_number(sheet, [apex, second, under, first], sheet.plus(less, less))

    def test_nothing_by_a_theorem(self):
        """Both meetings and the middle; two points that are one; a bow of equal halves."""
        sheet = Sheet()
        first, second = sheet.point(1, 2), sheet.point(5, 4)
        left, right = sheet.apex(first, second, 0), sheet.apex(first, second, 1)
        middle = sheet.middle(first, second)
        for places in itertools.permutations((left, right, middle)):
            self.field_is(sheet, list(places), 0.0)
        self.field_is(sheet, [first, left, second, right, middle, right, second, left], 0.0)
        self.field_is(sheet, [first, left, right, second], 0.0)

    def test_one_point_in_two_ways(self):
        sheet = Sheet()
        first, second = sheet.point(0, 0), sheet.point(2, 0)
        apex = sheet.apex(first, second)
        same = sheet.at(sheet.number(1), sheet.root_of(3))
        self.field_is(sheet, [apex, same, second], 0.0)
        self.field_is(sheet, [apex, second, same], 0.0)
        self.field_is(sheet, [first, second, apex, second, first, same], 0.0)
        for mode in range(4):
            wanted = field(mode, sheet.p, [first, second, same])
            self.assertEqual(ask(field, mode, sheet.p, [first, second, apex]), wanted)

    def test_circle_and_line(self):
        """The chord x = 1 in the circle of radius 2, with (-1, 0): twice the field is 4 root 3."""
        sheet = Sheet()
        line = sheet.line(sheet.point(1, 0), sheet.point(1, 1))
        circle = sheet.disc(sheet.point(0, 0), 4)
        ends = [sheet.chord(line, circle, v) for v in (0, 1)]
        self.like_number(sheet, ends + [sheet.point(-1, 0)], sheet.root_of(48))

    def test_mirrored(self):
        """Mirrored, a way goes round the other way, by as much."""
        sheet = Sheet()
        line = sheet.line(sheet.point(-1, 1), sheet.at(sheet.root_of(2), sheet.root_of(5)))
        points = [sheet.point(3, 7), sheet.point(-1, 1), sheet.point(7, -1)]
        images = [sheet.mirrored(point, line) for point in points]
        self.field_is(sheet, points, float(shoelace([(3, 7), (-1, 1), (7, -1)])))
        self.field_is(sheet, images, -float(shoelace([(3, 7), (-1, 1), (7, -1)])))

    def test_middles_of_a_triangle(self):
        """A quarter of its field, and of any four-sided one a half."""
        sheet = Sheet()
        corners = [sheet.point(0, 0), sheet.at(sheet.root_of(2), sheet.root_of(3)), sheet.point(-5, 8)]
        middles = [sheet.middle(corners[k - 1], corners[k]) for k in range(3)]
        large, small = by_modes(sheet.p, corners), by_modes(sheet.p, middles)
        self.assertEqual([two - (2 << 52) for two in large], small)
        corners.append(sheet.point(-9, -1))
        middles = [sheet.middle(corners[k - 1], corners[k]) for k in range(4)]
        large, small = by_modes(sheet.p, corners), by_modes(sheet.p, middles)
        self.assertEqual([two - (1 << 52) for two in large], small)

    def test_near_the_greatest_weight(self):
        """Twice the field of a triangle of equal sides is root 3 by half the side's square, here 34: root 867."""
        for v in (0, 1):
            sheet = Sheet()
            first, second = sheet.point(3, 1), sheet.point(-2, 4)
            apex = sheet.apex(first, second, 1)
            last = sheet.shared(sheet.circle(apex, first), sheet.circle(second, first), v)
            root = sheet.root_of(867)
            less = sheet.minus(sheet.number(0), root)
            self.assertGreater(sheet.weights[last], 7800)
            self.like_number(sheet, [last, second, apex], (less, root)[v])
            self.like_number(sheet, [last, apex, second, second], (root, less)[v])
            self.field_is(sheet, [last, last, second], 0.0)

    def test_three_roots_near_the_greatest_weight(self):
        """Powers of a quotient, and three roots of one of them: two points that are one, and a triangle upon them."""
        sheet = Sheet()
        powers = [sheet.over(sheet.number(9973), sheet.number(9967))]
        for _ in range(6):
            powers.append(sheet.times(powers[-1], powers[-1]))
        root = sheet.root(sheet.root(sheet.root(powers[6])))
        zero = sheet.number(0)
        start, first, same = sheet.at(zero, zero), sheet.at(root, powers[3]), sheet.at(powers[3], root)
        across = sheet.at(zero, root)
        places = [start, first, same, across] * 2 + [start, same, across]
        self.assertGreater(sum(sheet.weights[place] for place in places), 15000)
        square = powers[4]
        for mode in range(4):
            self.assertEqual(ask(field, mode, sheet.p, [start, first, across]), value(square, mode, sheet.p))
        self.like_number(sheet, places, sheet.plus(sheet.plus(square, square), square))
        self.field_is(sheet, [start, first, same], 0.0)


class Moved(Fields):
    def test_moved_turned_enlarged(self):
        chance = random.Random(7)
        for _ in range(40):
            row = [(chance.randint(-3, 3), chance.randint(-3, 3)) for _ in range(7)]
            here = float(shoelace(row))
            self.field_is(*self.of_points(row), here)
            self.field_is(*self.of_points([(x + 100, y - 70) for x, y in row]), here)
            self.field_is(*self.of_points([(31 * x, 31 * y) for x, y in row]), 961 * here)
            for x, y in ((0, 1), (-1, 0), (3, 4), (5, -12)):
                there = [(u * x - v * y, u * y + v * x) for u, v in row]
                self.field_is(*self.of_points(there), (x * x + y * y) * here)


class Bounds(Fields):
    def setUp(self):
        self.sheet, self.places = self.of_points([(0, 0), (1, 0), (0, 1)])

    def refused(self, places, p=None):
        for mode in (0, 1, 2, 3, 4, LARGEST):
            self.assertEqual(ask(field, mode, p or self.sheet.p, places), [-6])

    def test_how_many_places(self):
        for count in (0, 1, 2, 17, 18, 100):
            self.refused((self.places * 34)[:count])
        self.field_is(self.sheet, self.places, 1.0)
        self.field_is(self.sheet, (self.places * 6)[:4], 1.0)
        self.field_is(self.sheet, (self.places * 6)[:16], 5.0)

    def test_modes(self):
        for mode in (4, 5, 8, 2**32, LARGEST):
            self.assertEqual(ask(field, mode, self.sheet.p, self.places), [-6])

    def test_past_the_last_step(self):
        count = len(self.sheet.steps)
        self.assertEqual(self.places[-1], count - 1)
        for far in (count, count + 1, 4 * count, 99, 2**32, LARGEST):
            for place in range(4):
                self.refused(self.places[:place] + [far] + self.places[place:])
            self.refused([far] * 3)

    def test_no_point(self):
        p, (numbers, points, lines, circles) = two_of_each()
        self.assertEqual(by_modes(p, points * 2), [0] * 4)
        for other in numbers + lines + circles:
            self.refused([other] * 3, p)
            for place in range(3):
                self.refused(points[:place] + [other] + points[place:], p)

    def test_weights(self):
        """Sixteen times 1,024 makes just 16,384."""
        sheet = Sheet()
        base = sheet.heavy(996)
        one = sheet.number(1)
        light, heavy = [sheet.at(number, one) for number in (sheet.times(base, one), sheet.plus(base, one))]
        self.assertEqual([sheet.weights[light], sheet.weights[heavy]], [1024, 1025])
        self.field_is(sheet, [light] * 16, 0.0)
        self.refused([light] * 15 + [heavy], sheet.p)
        self.refused([heavy] + [light] * 15, sheet.p)
        self.field_is(sheet, [light] * 14 + [heavy], 0.0)

    def test_the_same_step_counts_each_time(self):
        for weight, count in ((2048, 8), (4096, 4)):
            sheet = Sheet()
            heavy = sheet.at(sheet.heavy(weight - 14), sheet.number(1))
            self.field_is(sheet, [heavy] * count, 0.0)
            self.refused([heavy] * (count + 1), sheet.p)
        sheet = Sheet()
        heavy = sheet.at(sheet.heavy(8178), sheet.number(1))
        self.refused([heavy, heavy, sheet.point(0, 0)], sheet.p)
        self.refused([heavy, heavy], sheet.p)


if __name__ == "__main__":
    unittest.main()
