"""What holds over the whole program: what is told hangs on the points alone, and on no way of coming to them."""

import itertools
import unittest

from rulercircle.desk import along, field, hull, kind, level, meets, side, turn, value
from tests.helper import CIRCLE, LINE, POINT, Sheet, ask


def figures(sheet, points):
    """Lines, circles and their meetings, all from four points, those numbered 0 to 3."""
    a, b, c, d = points
    base, across = sheet.line(a, b), sheet.line(c, d)
    first, second = sheet.circle(a, c), sheet.circle(b, d)
    foot = sheet.middle(c, sheet.mirrored(c, base))
    sheet.crossing(base, across)
    sheet.chord(base, first, 0)
    sheet.shared(first, second, 1)
    sheet.line(foot, c)
    sheet.circle(d, d)
    return sheet


def plain(rows):
    sheet = Sheet()
    return figures(sheet, [sheet.point(x, y) for x, y in rows])


def steps_of(sheet, *wanted):
    """In their order: the same in two drawings, though of numbers one may have more than the other."""
    return [i for i in range(len(sheet.steps)) if kind(i, sheet.p)[0] in wanted]


def all_told(sheet):
    """The answers of side, along, level and meets for all points and figures, in their order."""
    points, lines, circles = [steps_of(sheet, made) for made in (POINT, LINE, CIRCLE)]
    told = []
    for i, j in itertools.product(points, repeat=2):
        told.append(level(i, j, sheet.p))
        told += [along(line, i, j, sheet.p) for line in lines]
    for i, j in itertools.product(lines + circles, points):
        told.append(side(i, j, sheet.p))
    for i, j in itertools.product(lines + circles, repeat=2):
        told.append(meets(i, j, sheet.p))
    return told


def rounds_told(sheet):
    """The hull of all light points, and twice the field of the way through them, as a double by mode 1."""
    points = [i for i in steps_of(sheet, POINT) if sheet.weights[i] < 3000]
    return hull(sheet.p, points)[2:], field(1, sheet.p, points)[2]


def turns_told(sheet):
    return [turn(line, 5, sheet.p)[2] for line in steps_of(sheet, LINE)]


ROWS = (
    [(0, 0), (4, 1), (1, 3), (2, -1)],
    [(1, 1), (-2, 1), (0, 0), (-1, 3)],
    [(0, 2), (0, -1), (2, 1), (-1, 0)],
)


class Moved(unittest.TestCase):
    """B2, with meetings among the points."""

    def same(self, here, there):
        self.assertEqual(all_told(here), all_told(there))

    def hulls_alike(self, here, there, shifted):
        """The same corners, round the same way, whichever is the first."""
        first, second = rounds_told(here)[0], rounds_told(there)[0]
        if shifted:
            start = first.index(second[0])
            first = first[start:] + first[:start]
        self.assertEqual(first, second)

    def test_moved(self):
        for rows in ROWS:
            here, there = plain(rows), plain([(x + 50, y - 70) for x, y in rows])
            self.same(here, there)
            self.hulls_alike(here, there, False)
            self.assertEqual(rounds_told(here)[1], rounds_told(there)[1])
            self.assertEqual(turns_told(here), turns_told(there))

    def test_enlarged(self):
        for rows in ROWS:
            here, there = plain(rows), plain([(16 * x, 16 * y) for x, y in rows])
            self.same(here, there)
            self.hulls_alike(here, there, False)
            self.assertEqual(rounds_told(here)[1] + (8 << 52), rounds_told(there)[1])
            self.assertEqual(turns_told(here), turns_told(there))

    def test_turned_by_eighths(self):
        """By an eighth all is root 2 times as large, by a quarter as it was."""
        for rows in ROWS:
            here = plain(rows)
            for x, y, turned, doubled in ((1, 1, 4, 1), (0, 1, 8, 0), (-2, 2, 12, 3), (-1, 0, 16, 0), (1, -1, 28, 1)):
                there = plain([(u * x - v * y, u * y + v * x) for u, v in rows])
                self.same(here, there)
                self.hulls_alike(here, there, True)
                self.assertEqual(rounds_told(here)[1] + (doubled << 52), rounds_told(there)[1])
                self.assertEqual([(pieces + turned) % 32 for pieces in turns_told(here)], turns_told(there))

    def test_turned_otherwise(self):
        """By the angle of (3, 4), which is between 4 and 5 pieces."""
        for rows in ROWS:
            here = plain(rows)
            there = plain([(3 * x - 4 * y, 4 * x + 3 * y) for x, y in rows])
            self.same(here, there)
            self.hulls_alike(here, there, True)
            for first, second in zip(turns_told(here), turns_told(there)):
                self.assertIn((second - first) % 32, (4, 5))

    def test_turned_and_moved_by_roots(self):
        """A square laid along (root 2, root 3), which meets a circle about its corner."""
        here, there = Sheet(), Sheet()
        points = [here.point(x, y) for x, y in ((0, 0), (1, 0), (1, 1), (0, 1))]
        x, y, zero = there.root_of(2), there.root_of(3), there.number(0)
        less = there.minus(zero, y)
        corners = ((zero, zero), (x, y), (there.plus(x, less), there.plus(x, y)), (less, x))
        laid = [there.at(*corner) for corner in corners]
        for sheet, row in ((here, points), (there, laid)):
            diagonal = sheet.line(row[1], row[3])
            circle = sheet.circle(row[0], row[1])
            sheet.chord(diagonal, circle, 0)
            sheet.mirrored(row[0], diagonal)
            sheet.middle(row[0], row[2])
            sheet.middle(row[1], row[3])
        self.same(here, there)
        self.hulls_alike(here, there, True)
        self.assertEqual(field(0, here.p, points)[2], 4611686018427387904)
        # The side's square is 2 + 3.
        self.assertEqual(field(0, there.p, laid)[2], 4621819117588971520)
        self.assertEqual(field(3, there.p, laid)[2], 4621819117588971520)


class NumbersToldOtherwise(unittest.TestCase):
    """Coordinates v told as v r / r, so that tops and bottoms are of roots, or below 0."""

    ROWS = ([(0, 0), (2, 1), (1, 2), (0, 1)], [(1, 1), (-1, 0), (1, -1), (0, 1)])

    def told(self, rows, factor):
        sheet = Sheet()
        by = factor(sheet)
        numbers = {}
        for v in sorted({v for row in rows for v in row}):
            numbers[v] = sheet.over(sheet.times(sheet.number(v), by), by)
        return figures(sheet, [sheet.at(numbers[x], numbers[y]) for x, y in rows])

    def factors(self):
        yield lambda sheet: sheet.root_of(2)
        yield lambda sheet: sheet.number(-7)
        yield lambda sheet: sheet.plus(sheet.number(1), sheet.root_of(2))
        yield lambda sheet: sheet.minus(sheet.number(1), sheet.root_of(2))

    def test_all_is_told_alike(self):
        for rows in self.ROWS:
            here = plain(rows)
            for factor in self.factors():
                there = self.told(rows, factor)
                self.assertEqual(kind(0, there.p), [0])
                self.assertEqual(all_told(here), all_told(there))
                self.assertEqual(turns_told(here), turns_told(there))
                points = [steps_of(sheet, POINT)[:4] for sheet in (here, there)]
                self.assertEqual(hull(here.p, points[0]), hull(there.p, points[1]))
                for mode in range(4):
                    self.assertEqual(field(mode, here.p, points[0]), field(mode, there.p, points[1]))

    def test_coordinates_of_meetings(self):
        """Of all points, so far as they aren't too heavy for one more step."""
        for rows in self.ROWS:
            here = plain(rows)
            for factor in self.factors():
                there = self.told(rows, factor)
                for i, j in zip(steps_of(here, POINT), steps_of(there, POINT)):
                    for op in (7, 8):
                        wanted = value(len(here.steps), 0, here.p + [op, i, 0, 0])
                        self.assertEqual(value(len(there.steps), 0, there.p + [op, j, 0, 0]), wanted)


class OneByATheorem(unittest.TestCase):
    """B3: a point come to in two ways is told one with itself by every call."""

    def ways(self):
        """Drawings with one point in two ways."""
        sheet = Sheet()
        apex = sheet.apex(sheet.point(0, 0), sheet.point(2, 0))
        yield sheet, apex, sheet.at(sheet.number(1), sheet.root_of(3))
        sheet = Sheet()
        corners = [sheet.point(0, 0), sheet.point(4, 0), sheet.point(1, 3)]
        halving = [sheet.line(corners[k], sheet.middle(corners[k - 1], corners[k - 2])) for k in range(3)]
        yield sheet, sheet.crossing(halving[0], halving[1]), sheet.crossing(halving[1], halving[2])
        sheet = Sheet()
        circles = [sheet.disc(sheet.point(0, 0), 7), sheet.disc(sheet.point(3, 1), 5)]
        yield sheet, sheet.shared(*circles, 0), sheet.shared(*circles[::-1], 1)
        sheet = Sheet()
        line = sheet.line(sheet.point(0, 1), sheet.at(sheet.root_of(2), sheet.root_of(3)))
        point = sheet.point(2, 0)
        yield sheet, point, sheet.mirrored(sheet.mirrored(point, line), line)
        sheet = Sheet()
        touching = sheet.line(sheet.point(7, 1), sheet.point(-1, 7))
        circle = sheet.disc(sheet.point(0, 0), 25)
        yield sheet, sheet.chord(touching, circle, 0), sheet.chord(touching, circle, 1)

    def test_level(self):
        for sheet, i, j in self.ways():
            self.assertEqual(ask(level, i, j, sheet.p), [1])
            for op in (7, 8):
                last = len(sheet.steps)
                p = sheet.p + [op, i, 0, 0, op, j, 0, 0, 2, last, last + 1, 0]
                self.assertEqual(kind(0, p), [0])
                self.assertEqual(ask(level, last, last + 1, p), [1])
                for mode in range(4):
                    self.assertEqual(ask(value, last, mode, p), ask(value, last + 1, mode, p))
                    self.assertEqual(ask(value, last + 2, mode, p), [0, 1, 0])

    def test_line_and_circle_through_both(self):
        for sheet, i, j in self.ways():
            last = len(sheet.steps)
            self.assertEqual(kind(0, sheet.p + [9, i, j, 0]), [-4, 1, last])
            nothing = sheet.p + [10, i, j, 0]
            self.assertEqual(ask(side, last, i, nothing), [1])
            self.assertEqual(ask(side, last, j, nothing), [1])

    def test_distance(self):
        told = 0
        for sheet, i, j in self.ways():
            if 2 * (sheet.weights[i] + sheet.weights[j]) <= 8192:
                self.assertEqual(ask(value, len(sheet.steps), 2, sheet.p + [17, i, j, 0]), [0, 1, 0])
                told += 1
        self.assertEqual(told, 4)

    def test_side_and_along(self):
        for sheet, i, j in self.ways():
            for figure in steps_of(sheet, LINE, CIRCLE):
                self.assertEqual(ask(side, figure, i, sheet.p), ask(side, figure, j, sheet.p))
            for line in steps_of(sheet, LINE):
                self.assertEqual(ask(along, line, i, j, sheet.p), [1])
                for other in steps_of(sheet, POINT):
                    self.assertEqual(ask(along, line, i, other, sheet.p), ask(along, line, j, other, sheet.p))

    def test_lines_and_circles_from_either(self):
        for sheet, i, j in self.ways():
            far = sheet.point(-3, 5)
            lines = [sheet.line(point, far) for point in (i, j)]
            circles = [sheet.circle(far, point) for point in (i, j)]
            about = [sheet.circle(point, far) for point in (i, j)]
            for pair in (lines, circles, about):
                self.assertEqual(ask(meets, *pair, sheet.p), [3])
            for m in range(1, 6):
                self.assertEqual(ask(turn, lines[0], m, sheet.p), ask(turn, lines[1], m, sheet.p))
            for k in (0, 1):
                self.assertEqual(ask(side, lines[k], (j, i)[k], sheet.p), [1])
                self.assertEqual(ask(side, circles[k], (j, i)[k], sheet.p), [1])
                self.assertEqual(ask(meets, circles[k], lines[1 - k], sheet.p), [2])

    def test_hull_and_field(self):
        for sheet, i, j in self.ways():
            far, other = sheet.point(-3, 5), sheet.point(9, 9)
            self.assertEqual(ask(hull, sheet.p, [i, j]), [1, 1, 0])
            self.assertEqual(ask(hull, sheet.p, [j, i]), [1, 1, 0])
            first, second = ask(hull, sheet.p, [far, i, other]), ask(hull, sheet.p, [far, j, other])
            self.assertEqual(first, second)
            for mode in range(4):
                here, there = [ask(field, mode, sheet.p, [far, point, other]) for point in (i, j)]
                self.assertEqual(here, there)
                self.assertEqual(ask(field, mode, sheet.p, [far, i, j]), [0, 1, 0])
                self.assertEqual(ask(field, mode, sheet.p, [i, far, j]), [0, 1, 0])


class EachCallByItself(unittest.TestCase):
    """What one call is asked leaves no trace in what another one answers."""

    def test_in_any_order(self):
        sheets = [plain(rows) for rows in ROWS]
        told = [all_told(sheet) for sheet in sheets]
        for order in itertools.permutations(range(3)):
            for k in order:
                self.assertEqual(all_told(sheets[k])[:60], told[k][:60])
                self.assertEqual(kind(0, [18, 0, 0, 0]), [-1, 1, 0])

    def test_an_answer_may_be_changed(self):
        sheet = plain(ROWS[0])
        points = steps_of(sheet, POINT)[:3]
        for call, given in ((hull, (sheet.p, points)), (field, (0, sheet.p, points)), (kind, (0, [18, 0, 0, 0]))):
            answer = call(*given)
            kept = list(answer)
            answer.append(5)
            answer[0] = -9
            self.assertEqual(call(*given), kept)


if __name__ == "__main__":
    unittest.main()
