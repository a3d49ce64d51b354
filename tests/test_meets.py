"""meets: how many points two figures have in common; and that the points of meetings are just these (B1)."""

import itertools
import random
import unittest

from rulercircle.desk import kind, level, meets, side
from tests.helper import DIRECTIONS, LARGEST, Sheet, ask, two_of_each

NONE, SINGLE, TWO, ALL = [0], [1], [2], [3]


class Meeting(unittest.TestCase):
    def common(self, sheet, i, j, wanted):
        self.assertEqual(ask(meets, i, j, sheet.p), wanted)
        self.assertEqual(ask(meets, j, i, sheet.p), wanted)


class Lines(Meeting):
    def lines(self, *places):
        sheet = Sheet()
        points = [sheet.point(x, y) for x, y in places]
        return sheet, sheet.line(points[0], points[1]), sheet.line(points[2], points[3])

    def test_crossing(self):
        self.common(*self.lines((0, 0), (1, 2), (5, 0), (7, 5)), SINGLE)
        self.common(*self.lines((0, 0), (1, 0), (0, 0), (0, 1)), SINGLE)
        self.common(*self.lines((3, 1), (3, 2), (5, 7), (4, 7)), SINGLE)
        self.common(*self.lines((0, 0), (9998, 9999), (1, 0), (9998, 9998)), SINGLE)

    def test_crossing_far_away(self):
        self.common(*self.lines((0, 0), (9999, 1), (0, 1), (9998, 2)), SINGLE)

    def test_parallel(self):
        self.common(*self.lines((0, 0), (1, 2), (5, 0), (7, 4)), NONE)
        self.common(*self.lines((0, 0), (1, 2), (7, 4), (5, 0)), NONE)
        self.common(*self.lines((0, 0), (0, 2), (7, 4), (7, 0)), NONE)
        self.common(*self.lines((0, 0), (1, 0), (7, 4), (9, 4)), NONE)
        self.common(*self.lines((0, 1), (1, 2), (0, 0), (5, 5)), NONE)

    def test_one(self):
        self.common(*self.lines((0, 0), (1, 2), (2, 4), (3, 6)), ALL)
        self.common(*self.lines((0, 0), (1, 2), (3, 6), (2, 4)), ALL)
        self.common(*self.lines((1, 0), (1, 5), (1, 7), (1, 2)), ALL)
        self.common(*self.lines((4, 3), (1, 3), (-7, 3), (2, 3)), ALL)

    def test_same_step_and_the_same_told_again(self):
        for x, y in DIRECTIONS:
            sheet = Sheet()
            start, end = sheet.point(1, -2), sheet.point(1 + x, y - 2)
            line = sheet.line(start, end)
            self.common(sheet, line, line, ALL)
            self.common(sheet, line, sheet.line(start, end), ALL)
            self.common(sheet, line, sheet.line(end, start), ALL)

    def test_through_the_middle(self):
        sheet = Sheet()
        start, end = sheet.point(1, -2), sheet.at(sheet.root_of(2), sheet.root_of(3))
        middle = sheet.middle(start, end)
        line = sheet.line(start, end)
        self.common(sheet, line, sheet.line(end, middle), ALL)
        self.common(sheet, line, sheet.line(start, middle), ALL)
        self.common(sheet, line, sheet.line(middle, sheet.point(0, 0)), SINGLE)

    def test_one_by_a_theorem(self):
        """The third height goes through where the others meet."""
        sheet = Sheet()
        corners = [sheet.point(0, 0), sheet.point(5, 1), sheet.point(2, 4)]
        heights = sheet.heights(corners)
        middle = sheet.crossing(heights[0], heights[1])
        self.common(sheet, heights[2], sheet.line(middle, corners[2]), ALL)
        self.common(sheet, heights[2], sheet.line(middle, corners[1]), SINGLE)

    def test_one_by_roots(self):
        """The chord of two like circles is the line that stands upright in the middle of their centres."""
        sheet = Sheet()
        first, second = sheet.point(1, 2), sheet.point(5, 4)
        chord = sheet.line(sheet.apex(first, second, 0), sheet.apex(first, second, 1))
        self.common(sheet, chord, sheet.line(sheet.point(3, 3), sheet.point(2, 5)), ALL)
        self.common(sheet, chord, sheet.line(sheet.point(4, 3), sheet.point(3, 5)), NONE)

    def test_parallel_by_a_theorem(self):
        """The line of the middles of two sides, and the third one."""
        sheet = Sheet()
        left, right, top = sheet.point(0, 1), sheet.point(4, 0), sheet.at(sheet.root_of(2), sheet.root_of(7))
        middles = sheet.line(sheet.middle(left, top), sheet.middle(top, right))
        self.common(sheet, middles, sheet.line(left, right), NONE)
        self.common(sheet, middles, sheet.line(left, top), SINGLE)

    def test_nearly_parallel(self):
        """Towards (root 2, 1) and (99, 70); and beside the first, by that much."""
        sheet = Sheet()
        start = sheet.point(0, 0)
        line = sheet.line(start, sheet.at(sheet.root_of(2), sheet.number(1)))
        near = sheet.point(99, 70)
        self.common(sheet, line, sheet.line(start, near), SINGLE)
        beside = sheet.line(near, sheet.at(sheet.plus(sheet.number(99), sheet.root_of(2)), sheet.number(71)))
        self.common(sheet, line, beside, NONE)

    def test_many(self):
        numbers = (-1, 0, 1, 2)
        places = list(itertools.product(numbers, repeat=2))
        chance = random.Random(1)
        for _ in range(600):
            (a, b), (c, d), (e, f), (g, h) = [chance.choice(places) for _ in range(4)]
            if (a, b) != (c, d) and (e, f) != (g, h):
                turned = (c - a) * (h - f) - (d - b) * (g - e)
                beside = (c - a) * (f - b) - (d - b) * (e - a)
                wanted = SINGLE if turned else NONE if beside else ALL
                self.common(*self.lines((a, b), (c, d), (e, f), (g, h)), wanted)


class LineAndCircle(Meeting):
    def test_level_lines(self):
        for height in range(-7, 8):
            for square, wanted in ((25, TWO), (9, TWO), (0, SINGLE)):
                sheet = Sheet()
                line = sheet.line(sheet.point(9, height), sheet.point(2, height))
                circle = sheet.disc(sheet.point(-3, 0), square)
                if height * height >= square:
                    wanted = SINGLE if height * height == square else NONE
                self.common(sheet, line, circle, wanted)

    def test_many(self):
        chance = random.Random(2)
        seen = {0: 0, 1: 0, 2: 0}
        for _ in range(1500):
            a, b, c, d, u, v, e, f = [chance.randint(-3, 3) for _ in range(8)]
            if (a, b) == (c, d):
                continue
            sheet = Sheet()
            line = sheet.line(sheet.point(a, b), sheet.point(c, d))
            circle = sheet.circle(sheet.point(u, v), sheet.point(e, f))
            far = ((c - a) * (v - b) - (d - b) * (u - a)) ** 2
            reach = ((u - e) ** 2 + (v - f) ** 2) * ((c - a) ** 2 + (d - b) ** 2)
            wanted = 1 + (reach > far) - (reach < far)
            seen[wanted] += 1
            self.common(sheet, line, circle, [wanted])
        self.assertGreater(min(seen.values()), 30)

    def test_touching_slanting(self):
        sheet = Sheet()
        line = sheet.line(sheet.point(7, 1), sheet.point(-1, 7))
        self.common(sheet, line, sheet.disc(sheet.point(0, 0), 25), SINGLE)
        self.common(sheet, line, sheet.disc(sheet.point(0, 0), 24), NONE)
        self.common(sheet, line, sheet.disc(sheet.point(0, 0), 26), TWO)

    def test_touching_by_a_theorem(self):
        """A line upright on the radius at its end; x + y = 2 root 2 and the circle of radius 2."""
        sheet = Sheet()
        zero, far = sheet.number(0), sheet.root_of(8)
        line = sheet.line(sheet.at(far, zero), sheet.at(zero, far))
        centre = sheet.at(zero, zero)
        self.common(sheet, line, sheet.disc(centre, 4), SINGLE)
        less = sheet.minus(sheet.number(4), sheet.over(sheet.number(1), sheet.power_of_two(300)))
        more = sheet.plus(sheet.number(4), sheet.over(sheet.number(1), sheet.power_of_two(300)))
        self.common(sheet, line, sheet.put(11, centre, less), NONE)
        self.common(sheet, line, sheet.put(11, centre, more), TWO)

    def test_touching_the_circle_about_the_centre(self):
        """The circle through the foot of the centre on a line touches it."""
        sheet = Sheet()
        line = sheet.line(sheet.point(-1, 1), sheet.at(sheet.root_of(2), sheet.root_of(5)))
        centre = sheet.point(3, 7)
        foot = sheet.middle(centre, sheet.mirrored(centre, line))
        self.common(sheet, line, sheet.circle(centre, foot), SINGLE)
        self.common(sheet, line, sheet.circle(centre, sheet.point(-1, 1)), TWO)

    def test_nearly_touching(self):
        """The radius is root 2; 99 / 70 is above it, and 140 / 99 below it, by less than one in ten thousand."""
        for top, bottom, wanted in ((99, 70, NONE), (140, 99, TWO)):
            sheet = Sheet()
            far = sheet.over(sheet.number(top), sheet.number(bottom))
            line = sheet.line(sheet.at(sheet.number(0), far), sheet.at(sheet.number(1), far))
            self.common(sheet, line, sheet.disc(sheet.point(0, 0), 2), wanted)

    def test_radius_of_nothing(self):
        sheet = Sheet()
        line = sheet.line(sheet.point(0, 0), sheet.point(3, 4))
        on, beside = sheet.point(-6, -8), sheet.point(3, 3)
        self.common(sheet, line, sheet.disc(on, 0), SINGLE)
        self.common(sheet, line, sheet.circle(on, on), SINGLE)
        self.common(sheet, line, sheet.disc(beside, 0), NONE)
        self.common(sheet, line, sheet.circle(beside, beside), NONE)

    def test_radius_of_nothing_by_a_theorem(self):
        sheet = Sheet()
        apex = sheet.apex(sheet.point(0, 0), sheet.point(2, 0))
        circle = sheet.circle(apex, sheet.at(sheet.number(1), sheet.root_of(3)))
        upright = sheet.line(sheet.point(1, 0), sheet.point(1, 2))
        self.common(sheet, upright, circle, SINGLE)
        self.common(sheet, sheet.line(sheet.point(0, 0), sheet.point(1, 2)), circle, NONE)


class Circles(Meeting):
    def circles(self, first, second):
        sheet = Sheet()
        steps = [sheet.disc(sheet.point(x, y), square) for x, y, square in (first, second)]
        return sheet, *steps

    def test_whole_radii(self):
        for x, y in ((0, 0), (1, 0), (0, -2), (3, 0), (3, 4), (-4, 3), (0, 5), (-6, 0), (1, 1), (2, 3)):
            for first in range(6):
                for second in range(6):
                    square = x * x + y * y
                    if square == 0:
                        wanted = ALL if first == second else NONE
                    elif square > (first + second) ** 2 or square < (first - second) ** 2:
                        wanted = NONE
                    elif square in ((first + second) ** 2, (first - second) ** 2):
                        wanted = SINGLE
                    else:
                        wanted = TWO
                    self.common(*self.circles((2, -1, first**2), (2 + x, y - 1, second**2)), wanted)

    def test_apart_and_touching_and_crossing(self):
        self.common(*self.circles((0, 7, 9), (6, 7, 8)), NONE)
        self.common(*self.circles((0, 7, 9), (6, 7, 9)), SINGLE)
        self.common(*self.circles((0, 7, 9), (6, 7, 10)), TWO)
        self.common(*self.circles((0, 7, 10), (2, 7, 1)), NONE)
        self.common(*self.circles((0, 7, 9), (2, 7, 1)), SINGLE)
        self.common(*self.circles((0, 7, 8), (2, 7, 1)), TWO)

    def test_about_one_centre(self):
        self.common(*self.circles((3, 4, 5), (3, 4, 5)), ALL)
        self.common(*self.circles((3, 4, 5), (3, 4, 6)), NONE)
        self.common(*self.circles((3, 4, 0), (3, 4, 5)), NONE)
        self.common(*self.circles((3, 4, 0), (3, 4, 0)), ALL)

    def test_same_step(self):
        sheet = Sheet()
        point = sheet.point(3, 4)
        for circle in (sheet.disc(point, 5), sheet.disc(point, 0), sheet.circle(point, sheet.point(1, 2))):
            self.common(sheet, circle, circle, ALL)

    def test_one_circle_told_otherwise(self):
        sheet = Sheet()
        centre = sheet.point(1, 1)
        circle = sheet.circle(centre, sheet.point(4, 5))
        self.common(sheet, circle, sheet.circle(centre, sheet.point(5, 4)), ALL)
        self.common(sheet, circle, sheet.disc(centre, 25), ALL)
        self.common(sheet, circle, sheet.circle(sheet.middle(sheet.point(5, 4), sheet.point(-3, -2)), centre), NONE)
        same = sheet.middle(sheet.point(5, 4), sheet.point(-3, -2))
        self.common(sheet, circle, sheet.disc(same, 25), ALL)

    def test_one_by_a_theorem(self):
        """About an apex through each end of the side; about the same place told otherwise."""
        sheet = Sheet()
        first, second = sheet.point(0, 0), sheet.point(2, 0)
        apex = sheet.apex(first, second)
        circle = sheet.circle(apex, first)
        self.common(sheet, circle, sheet.circle(apex, second), ALL)
        same = sheet.at(sheet.number(1), sheet.root_of(3))
        self.common(sheet, circle, sheet.circle(same, second), ALL)
        self.common(sheet, circle, sheet.disc(same, 4), ALL)
        self.common(sheet, circle, sheet.disc(same, 5), NONE)
        self.common(sheet, circle, sheet.circle(first, second), TWO)

    def test_touching_by_a_theorem(self):
        """Radii root 2 and root 8 about centres root 18 apart, and root 2 apart."""
        sheet = Sheet()
        zero, root = sheet.number(0), sheet.root_of(2)
        small, large = sheet.disc(sheet.at(root, zero), 2), sheet.disc(sheet.at(zero, zero), 8)
        self.common(sheet, small, large, SINGLE)
        thrice = sheet.times(sheet.number(3), root)
        self.common(sheet, sheet.disc(sheet.at(zero, thrice), 2), large, SINGLE)
        self.common(sheet, sheet.disc(sheet.at(root, root), 2), large, TWO)

    def test_touching_by_very_little_not(self):
        for exponent, sign, inner in ((300, 1, False), (300, -1, False), (300, 1, True), (300, -1, True)):
            sheet = Sheet()
            bit = sheet.over(sheet.number(sign), sheet.power_of_two(exponent))
            square = sheet.plus(sheet.number(9), bit)
            other = sheet.disc(sheet.point(2 if inner else 4, 0), 1)
            circle = sheet.put(11, sheet.point(0, 0), square)
            self.common(sheet, circle, other, TWO if (sign > 0) != inner else NONE)

    def test_radius_of_nothing(self):
        self.common(*self.circles((0, 0, 0), (1, 0, 0)), NONE)
        self.common(*self.circles((0, 0, 0), (0, 1, 0)), NONE)
        self.common(*self.circles((0, 0, 25), (3, 4, 0)), SINGLE)
        self.common(*self.circles((0, 0, 25), (3, 3, 0)), NONE)
        self.common(*self.circles((0, 0, 25), (4, 4, 0)), NONE)

    def test_radius_of_nothing_by_a_theorem(self):
        sheet = Sheet()
        first, second = sheet.point(0, 0), sheet.point(2, 0)
        apex = sheet.apex(first, second)
        same = sheet.at(sheet.number(1), sheet.root_of(3))
        nothing = sheet.circle(apex, same)
        self.common(sheet, nothing, sheet.disc(same, 0), ALL)
        self.common(sheet, nothing, sheet.circle(apex, apex), ALL)
        self.common(sheet, nothing, sheet.circle(first, second), SINGLE)
        self.common(sheet, nothing, sheet.disc(first, 5), NONE)
        self.common(sheet, nothing, sheet.disc(same, 5), NONE)

    def test_over_bottoms(self):
        """About (1/2, 1/3) and (1/3, 1/2), both through (0, 0): they meet in (5/6, 5/6) too."""
        sheet = Sheet()
        half = sheet.over(sheet.number(-1), sheet.number(-2))
        third = sheet.over(sheet.number(1), sheet.number(3))
        start = sheet.point(0, 0)
        first, second = [sheet.circle(sheet.at(*centre), start) for centre in ((half, third), (third, half))]
        self.common(sheet, first, second, TWO)
        across = sheet.circle(sheet.at(sheet.minus(start - 1, half), sheet.minus(start - 1, third)), start)
        self.common(sheet, first, across, SINGLE)

    def test_near_the_greatest_weight(self):
        """About a meeting of what a meeting makes; the side's square is 34."""
        sheet = Sheet()
        first, second = sheet.point(3, 1), sheet.point(-2, 4)
        apex = sheet.apex(first, second)
        last = sheet.shared(sheet.circle(apex, first), sheet.circle(second, first), 0)
        circle = sheet.circle(last, second)
        self.assertGreater(sheet.weights[circle], 7800)
        self.common(sheet, circle, sheet.disc(last, 34), ALL)
        self.common(sheet, circle, sheet.disc(last, 35), NONE)
        self.common(sheet, circle, sheet.circle(second, first), TWO)


class PointsOfMeetings(unittest.TestCase):
    """B1: a point of a meeting lies on both; whatever lies on both is one of those; meets tells how many."""

    def drawn(self, chance):
        """Two lines, three circles by chance, both through one point or not."""
        sheet = Sheet()
        shared = sheet.point(chance.randint(-2, 2), chance.randint(-2, 2))
        others = [sheet.point(chance.randint(-2, 2), chance.randint(-2, 2)) for _ in range(4)]
        lines = [(a, b) for a, b in itertools.permutations([shared] + others, 2) if a != b]
        for a, b in chance.sample(lines, 2) if len(lines) > 1 else []:
            sheet.line(a, b)
        sheet.circle(others[0], shared)
        sheet.circle(others[1], shared)
        sheet.disc(others[2], chance.randint(0, 9))
        return sheet

    def test_by_chance(self):
        chance = random.Random(3)
        self.seen = {}
        for _ in range(250):
            sheet = self.drawn(chance)
            figures = [step for step, row in enumerate(sheet.steps) if row[0] in (9, 10, 11)]
            for i, j in itertools.product(figures, repeat=2):
                op = {(9, 9): 12, (9, 10): 13, (10, 10): 14}.get(
                    (min(sheet.steps[i][0], 10), min(sheet.steps[j][0], 10))
                )
                if op:
                    self.check(sheet, op, i, j)
        self.assertEqual(len(self.seen), 3 + 3 + 5)
        self.assertGreater(min(self.seen.values()), 10)

    def check(self, sheet, op, i, j):
        count = ask(meets, i, j, sheet.p)
        last = len(sheet.steps)
        p = sheet.p + [op, i, j, 0] + [op, i, j, int(op != 12)]
        given = kind(0, p)
        key = (op, count[0], given[0])
        self.seen[key] = self.seen.get(key, 0) + 1
        if count in (SINGLE, TWO):
            self.assertEqual(given, [0])
            self.both_points(sheet, p, i, j, count)
        elif given[0] == -5:
            self.assertEqual((given[1:], count), ([1, last], NONE))
            self.assertNotEqual(op, 12)
        else:
            self.assertEqual(given, [-4, 1, last])
            self.assertNotEqual(op, 13)

    def both_points(self, sheet, p, i, j, count):
        """The last two steps are the points of the meeting by both v."""
        last = len(sheet.steps)
        for point in (last, last + 1):
            self.assertEqual(side(i, point, p), [1])
            self.assertEqual(side(j, point, p), [1])
        self.assertEqual(level(last, last + 1, p), [int(count == SINGLE)])
        for point, row in enumerate(sheet.steps):
            if row[0] == 6 and side(i, point, p) == side(j, point, p) == [1]:
                self.assertIn([1], (level(point, last, p), level(point, last + 1, p)))


class AskedAmiss(unittest.TestCase):
    def setUp(self):
        self.p, self.kinds = two_of_each()

    def test_every_pair(self):
        figures = self.kinds[2] + self.kinds[3]
        steps = range(len(self.p) // 4)
        for i in steps:
            for j in steps:
                answer = ask(meets, i, j, self.p)
                if i in figures and j in figures:
                    self.assertIn(answer, (NONE, SINGLE, TWO, ALL))
                else:
                    self.assertEqual(answer, [-6])

    def test_past_the_last_step(self):
        count = len(self.p) // 4
        for far in (count, count + 1, len(self.p), 99, 2**32, LARGEST):
            for i in range(count):
                self.assertEqual(ask(meets, i, far, self.p), [-6])
                self.assertEqual(ask(meets, far, i, self.p), [-6])
            self.assertEqual(ask(meets, far, far, self.p), [-6])


if __name__ == "__main__":
    unittest.main()
