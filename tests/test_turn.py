"""turn: into which piece of a turn a line points."""

import math
import unittest

from rulercircle.desk import turn
from tests.helper import LARGEST, Sheet, ask, two_of_each


class Turn(unittest.TestCase):
    def turn_is(self, p, line, pieces):
        """For each m, where it's so many whole 32nds of a turn."""
        for m in range(1, 6):
            self.assertEqual(ask(turn, line, m, p), [0, 1, pieces >> (5 - m)], m)


class WholeDirections(Turn):
    def line(self, x, y):
        sheet = Sheet()
        line = sheet.line(sheet.point(3, -2), sheet.point(3 + x, y - 2))
        return sheet.p, line

    def test_eighths(self):
        for eighth, towards in enumerate(((1, 0), (1, 1), (0, 1), (-1, 1), (-1, 0), (-1, -1), (0, -1), (1, -1))):
            for size in (1, 2, 7):
                self.turn_is(*self.line(size * towards[0], size * towards[1]), 4 * eighth)

    def test_each_m(self):
        """(3, 2) is 33.69.. degrees round, (-3, -2) half a turn more."""
        p, line = self.line(3, 2)
        self.assertEqual([ask(turn, line, m, p) for m in range(1, 6)], [[0, 1, k] for k in (0, 0, 0, 1, 2)])
        p, line = self.line(-3, -2)
        self.assertEqual([ask(turn, line, m, p) for m in range(1, 6)], [[0, 1, k] for k in (1, 2, 4, 9, 18)])

    def test_many(self):
        """By whole steps no direction lies on another edge than the eighths, nor near one."""
        for x in range(-9, 10):
            for y in range(-9, 10):
                if (x, y) != (0, 0):
                    round_so_far = (math.atan2(y, x) / math.tau + 1e-9) % 1
                    p, line = self.line(x, y)
                    for m in range(1, 6):
                        self.assertEqual(turn(line, m, p), [0, 1, int(round_so_far * 2**m)], (x, y, m))

    def test_just_beside_the_eighths(self):
        for towards, pieces in (
            ((9999, 1), 0),
            ((9999, -1), 31),
            ((9999, 9998), 3),
            ((9998, 9999), 4),
            ((1, 9999), 7),
            ((-1, 9999), 8),
            ((-9998, 9999), 11),
            ((-9999, 9998), 12),
            ((-9999, 1), 15),
            ((-9999, -1), 16),
            ((-9999, -9998), 19),
            ((-9998, -9999), 20),
            ((-1, -9999), 23),
            ((1, -9999), 24),
            ((9998, -9999), 27),
            ((9999, -9998), 28),
        ):
            sheet = Sheet()
            line = sheet.line(sheet.point(0, 0), sheet.point(*towards))
            self.turn_is(sheet.p, line, pieces)

    def test_greatest_answers(self):
        p, line = self.line(9, -1)
        for m in range(1, 6):
            self.assertEqual(ask(turn, line, m, p), [0, 1, 2**m - 1])

    def test_the_other_way_round(self):
        sheet = Sheet()
        first, second = sheet.point(1, 5), sheet.point(4, 6)
        self.turn_is(sheet.p + [9, first, second, 0], len(sheet.steps), 1)
        self.turn_is(sheet.p + [9, second, first, 0], len(sheet.steps), 17)


class Edge:
    """A drawing with the numbers x, y of a direction that's just so many 32nds of a turn."""

    def __init__(self, pieces):
        self.sheet = Sheet()
        self.one = self.sheet.number(1)
        self.zero = self.sheet.number(0)
        self.x, self.y = self.first_quarter(pieces % 8)
        for _ in range(pieces // 8):
            self.x, self.y = self.sheet.minus(self.zero, self.y), self.x

    def first_quarter(self, pieces):
        if pieces > 4:
            return self.first_quarter(8 - pieces)[::-1]
        if pieces == 0:
            return self.one, self.zero
        if pieces == 4:
            return self.one, self.one
        root = self.sheet.root_of(2)
        less = self.sheet.minus(root, self.one)
        if pieces == 2:
            return self.one, less
        # Half as far round as (a, b) lies (a + the length, b).
        if pieces == 1:
            return self.halved(self.one, less)
        return self.halved(less, self.one)

    def halved(self, a, b):
        square = self.sheet.plus(self.sheet.times(a, a), self.sheet.times(b, b))
        return self.sheet.plus(a, self.sheet.root(square)), b

    def line(self):
        return self.sheet.line(self.sheet.at(self.zero, self.zero), self.sheet.at(self.x, self.y))

    def turned(self, less):
        """By very little, on or back."""
        sheet = self.sheet
        bit = sheet.over(sheet.number(-1 if less else 1), sheet.number(9999))
        bit = sheet.times(sheet.times(bit, bit), bit)
        self.x, self.y = (
            sheet.minus(self.x, sheet.times(bit, self.y)),
            sheet.plus(self.y, sheet.times(bit, self.x)),
        )


class Edges(Turn):
    def test_just_on(self):
        for pieces in range(32):
            edge = Edge(pieces)
            line = edge.line()
            self.turn_is(edge.sheet.p, line, pieces)

    def test_just_behind(self):
        for pieces in range(32):
            edge = Edge(pieces)
            edge.turned(False)
            line = edge.line()
            self.turn_is(edge.sheet.p, line, pieces)

    def test_just_before(self):
        for pieces in range(32):
            edge = Edge(pieces)
            edge.turned(True)
            line = edge.line()
            self.turn_is(edge.sheet.p, line, (pieces - 1) % 32)

    def test_sixteenth_by_compasses(self):
        """From (0, 0) towards the point that's as far on from (1, 1) as that is from (0, 0)."""
        sheet = Sheet()
        start, corner = sheet.point(0, 0), sheet.point(1, 1)
        circle = sheet.circle(corner, start)
        far = sheet.chord(sheet.line(corner, sheet.point(2, 1)), circle, 1)
        line = sheet.line(start, far)
        self.turn_is(sheet.p, line, 2)
        back = sheet.line(far, start)
        self.turn_is(sheet.p, back, 18)
        again = sheet.chord(sheet.line(corner, sheet.point(0, 1)), circle, 1)
        line = sheet.line(start, again)
        self.turn_is(sheet.p, line, 10)

    def test_thirty_second_by_compasses(self):
        """The same once more, with the point come to."""
        sheet = Sheet()
        start, corner = sheet.point(0, 0), sheet.point(1, 1)
        circle = sheet.circle(corner, start)
        row = sheet.line(corner, sheet.point(2, 1))
        far = sheet.chord(row, circle, 1)
        further = sheet.chord(row, sheet.circle(far, start), 1)
        line = sheet.line(start, further)
        self.turn_is(sheet.p, line, 1)
        self.assertGreater(sheet.weights[line], 8192 * 7 // 8)


class ByMeetings(Turn):
    def test_sixths(self):
        """The directions to the corners of a regular hexagon, a sixth of a turn apart."""
        sheet = Sheet()
        start, right = sheet.point(0, 0), sheet.point(2, 0)
        upper, lower = sheet.apex(start, right, 0), sheet.apex(start, right, 1)
        for a, b, sixth in (
            (start, right, 0),
            (start, upper, 1),
            (right, upper, 2),
            (right, start, 3),
            (upper, start, 4),
            (upper, right, 5),
        ):
            self.turn_is(sheet.p + [9, a, b, 0], len(sheet.steps), 32 * sixth // 6)
        self.turn_is(sheet.p + [9, lower, upper, 0], len(sheet.steps), 8)
        self.turn_is(sheet.p + [9, upper, lower, 0], len(sheet.steps), 24)

    def test_mirrored(self):
        """A direction mirrored in the diagonal, by its two points."""
        sheet = Sheet()
        diagonal = sheet.line(sheet.point(2, 2), sheet.point(5, 5))
        ends = [sheet.mirrored(sheet.point(x, y), diagonal) for x, y in ((1, 5), (4, 6))]
        line = sheet.line(*ends)
        self.turn_is(sheet.p, line, 6)

    def test_level_by_a_theorem(self):
        """The line of the middles of two sides has the third one's direction."""
        sheet = Sheet()
        left, right, top = sheet.point(0, 0), sheet.point(4, 0), sheet.at(sheet.root_of(2), sheet.root_of(7))
        middles = [sheet.middle(left, top), sheet.middle(right, top)]
        self.turn_is(sheet.p + [9, *middles, 0], len(sheet.steps), 0)
        self.turn_is(sheet.p + [9, *middles[::-1], 0], len(sheet.steps), 16)

    def test_turned_by_as_much(self):
        """A direction of roots, and the same turned by quarters and eighths."""
        sheet = Sheet()
        x, y = sheet.root_of(2), sheet.root_of(5)
        start = sheet.point(0, 0)
        zero = sheet.number(0)
        wanted = int(math.atan2(5**0.5, 2**0.5) / math.tau * 32)
        for quarter in range(4):
            self.turn_is(sheet.p + [6, x, y, 0, 9, start, len(sheet.steps), 0], len(sheet.steps) + 1, wanted)
            ahead, rise = sheet.minus(x, y), sheet.plus(x, y)
            p = sheet.p + [6, ahead, rise, 0, 9, start, len(sheet.steps), 0]
            self.turn_is(p, len(sheet.steps) + 1, (wanted + 4) % 32)
            x, y = sheet.minus(zero, y), x
            wanted = (wanted + 8) % 32

    def test_three_roots_near_the_greatest_weight(self):
        """Towards (root, root) of one number, come to in two ways: just an eighth; by a little more, not."""
        sheet = Sheet()
        powers = [sheet.over(sheet.number(9973), sheet.number(9967))]
        for _ in range(6):
            powers.append(sheet.times(powers[-1], powers[-1]))
        root = sheet.root(sheet.root(sheet.times(powers[6], powers[5])))
        same = sheet.root(sheet.times(root, root))
        self.assertGreater(sheet.weights[root] + sheet.weights[same], 8000)
        more = sheet.plus(root, sheet.over(sheet.number(1), sheet.power_of_two(52)))
        start = sheet.point(0, 0)
        for ends, pieces in (((root, same), 4), ((same, root), 4), ((root, more), 4), ((more, root), 3)):
            p = sheet.p + [6, *ends, 0, 9, start, len(sheet.steps), 0]
            self.turn_is(p, len(sheet.steps) + 1, pieces)


class AskedAmiss(unittest.TestCase):
    def setUp(self):
        self.p, self.kinds = two_of_each()

    def test_no_line(self):
        numbers, points, lines, circles = self.kinds
        for i in range(len(self.p) // 4):
            for m in range(1, 6):
                self.assertEqual(ask(turn, i, m, self.p)[0], 0 if i in lines else -6)
        for i in numbers + points + circles:
            for m in (0, 1, 3, 5, 6):
                self.assertEqual(ask(turn, i, m, self.p), [-6])

    def test_m(self):
        line = self.kinds[2][0]
        for m in (0, 6, 7, 32, 64, 2**32, LARGEST):
            self.assertEqual(ask(turn, line, m, self.p), [-6])
        for m in (1, 2, 3, 4, 5):
            self.assertEqual(ask(turn, line, m, self.p)[:2], [0, 1])

    def test_past_the_last_step(self):
        count = len(self.p) // 4
        for far in (count, count + 1, len(self.p), 99, 2**32, LARGEST):
            for m in (0, 1, 3, 5, 6, LARGEST):
                self.assertEqual(ask(turn, far, m, self.p), [-6])


if __name__ == "__main__":
    unittest.main()
