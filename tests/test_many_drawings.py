"""Many drawings, each call's answer held against one that's come to in another way.

Here the things are decimals of very many digits, by the common formulas (lines with a direction of
length 1, circles with a radius), and what is nearer to 0 than ever a drawing of that weight is, is 0.
"""

import collections
import decimal
import fractions
import functools
import math
import random
import struct
import unittest

from rulercircle.desk import along, field, hull, kind, level, meets, side, turn, value
from tests.helper import CIRCLE, INFINITE, LINE, MINUS, NUMBER, POINT, bits, how_many_used, weight

D = decimal.Decimal

MADE_OF = {
    1: (NUMBER, NUMBER),
    2: (NUMBER, NUMBER),
    3: (NUMBER, NUMBER),
    4: (NUMBER, NUMBER),
    5: (NUMBER, None),
    6: (NUMBER, NUMBER),
    7: (POINT, None),
    8: (POINT, None),
    9: (POINT, POINT),
    10: (POINT, POINT),
    11: (POINT, NUMBER),
    12: (LINE, LINE),
    13: (LINE, CIRCLE),
    14: (CIRCLE, CIRCLE),
    15: (POINT, POINT),
    16: (POINT, LINE),
    17: (POINT, POINT),
}
MAKES = {6: POINT, 9: LINE, 10: CIRCLE, 11: CIRCLE, 12: POINT, 13: POINT, 14: POINT, 15: POINT, 16: POINT}


@functools.cache
def edge_of_turn(pieces, digits):
    """The direction of so many 32nds of a turn."""
    low, high = (D(1), D(0)), (D(0), D(1))
    with decimal.localcontext(decimal.Context(prec=digits)):
        for size in (4, 2, 1):
            # Halfway between two directions of length 1 lies their sum.
            half = low[0] + high[0], low[1] + high[1]
            length = (half[0] ** 2 + half[1] ** 2).sqrt()
            half = half[0] / length, half[1] / length
            low, high = (half, high) if pieces & size else (low, half)
        x, y = low
        for _ in range(pieces // 8):
            x, y = -y, x
    return x, y


class CannotBe(Exception):
    """Its first argument is the number that says why."""


class Decimals:
    """The ops by decimals of so many digits."""

    def __init__(self, digits):
        self.context = decimal.Context(prec=digits, Emin=-decimal.MAX_EMAX, Emax=decimal.MAX_EMAX)
        self.least = D(10) ** -(digits // 2)

    def sign(self, x):
        if abs(x) < self.least:
            return 0
        return 1 if x > 0 else -1

    def root(self, x, why):
        sign = self.sign(x)
        if sign < 0:
            raise CannotBe(why)
        return x.sqrt() if sign else D(0)

    def make(self, op, a, b, v):
        with decimal.localcontext(self.context):
            return getattr(self, f"op{op}")(a, b, v)

    def op0(self, a, b, v):
        return D(v)

    def op1(self, a, b, v):
        return a + b

    def op2(self, a, b, v):
        return a - b

    def op3(self, a, b, v):
        return a * b

    def op4(self, a, b, v):
        if self.sign(b) == 0:
            raise CannotBe(-2)
        return a / b

    def op5(self, a, b, v):
        return self.root(a, -3)

    def op6(self, a, b, v):
        return a, b

    def op7(self, a, b, v):
        return a[0]

    def op8(self, a, b, v):
        return a[1]

    def op9(self, a, b, v):
        x, y = b[0] - a[0], b[1] - a[1]
        if self.sign(x) == 0 and self.sign(y) == 0:
            raise CannotBe(-4)
        length = (x * x + y * y).sqrt()
        return a, (x / length, y / length)

    def op10(self, a, b, v):
        return a, ((a[0] - b[0]) ** 2 + (a[1] - b[1]) ** 2).sqrt()

    def op11(self, a, b, v):
        return a, self.root(b, -3)

    def op12(self, a, b, v):
        (p, u), (q, w) = a, b
        turned = u[0] * w[1] - u[1] * w[0]
        if self.sign(turned) == 0:
            raise CannotBe(-4)
        way = ((q[0] - p[0]) * w[1] - (q[1] - p[1]) * w[0]) / turned
        return p[0] + way * u[0], p[1] + way * u[1]

    def foot(self, line, point):
        p, u = line
        way = (point[0] - p[0]) * u[0] + (point[1] - p[1]) * u[1]
        return p[0] + way * u[0], p[1] + way * u[1]

    def op13(self, a, b, v):
        centre, radius = b
        x, y = self.foot(a, centre)
        way = self.root(radius**2 - (x - centre[0]) ** 2 - (y - centre[1]) ** 2, -5)
        if v == 0:
            way = -way
        return x + way * a[1][0], y + way * a[1][1]

    def op14(self, a, b, v):
        (p, r), (q, s) = a, b
        x, y = q[0] - p[0], q[1] - p[1]
        if self.sign(x) == 0 and self.sign(y) == 0:
            raise CannotBe(-4)
        length = (x * x + y * y).sqrt()
        x, y = x / length, y / length
        ahead = (length + (r - s) * (r + s) / length) / 2
        left = self.root(r * r - ahead * ahead, -5)
        if v == 1:
            left = -left
        return p[0] + ahead * x - left * y, p[1] + ahead * y + left * x

    def op15(self, a, b, v):
        return (a[0] + b[0]) / 2, (a[1] + b[1]) / 2

    def op16(self, a, b, v):
        x, y = self.foot(b, a)
        return 2 * x - a[0], 2 * y - a[1]

    def op17(self, a, b, v):
        return (a[0] - b[0]) ** 2 + (a[1] - b[1]) ** 2

    def told(self, call, *things):
        with decimal.localcontext(self.context):
            return getattr(self, call)(*things)

    def level(self, a, b):
        if isinstance(a, tuple):
            return int(self.sign(a[0] - b[0]) == 0 and self.sign(a[1] - b[1]) == 0)
        return 1 + self.sign(a - b)

    def side(self, a, b):
        (x, y), size = a
        if isinstance(size, tuple):
            return 1 + self.sign(size[0] * (b[1] - y) - size[1] * (b[0] - x))
        return 1 + self.sign(size - ((b[0] - x) ** 2 + (b[1] - y) ** 2).sqrt())

    def along(self, line, a, b):
        u = line[1]
        return 1 + self.sign(u[0] * (a[0] - b[0]) + u[1] * (a[1] - b[1]))

    def meets(self, a, b):
        if not isinstance(a[1], tuple):
            return self.meets_circle(b, a)
        if not isinstance(b[1], tuple):
            return self.meets_circle(a, b)
        (p, u), (q, w) = a, b
        if self.sign(u[0] * w[1] - u[1] * w[0]) != 0:
            return 1
        return 0 if self.sign(u[0] * (q[1] - p[1]) - u[1] * (q[0] - p[0])) else 3

    def meets_circle(self, figure, circle):
        (centre, radius), (place, size) = circle, figure
        x, y = self.foot(figure, centre) if isinstance(size, tuple) else place
        far = ((x - centre[0]) ** 2 + (y - centre[1]) ** 2).sqrt()
        if isinstance(size, tuple):
            return 1 + self.sign(radius - far)
        if self.sign(far) == 0:
            return 0 if self.sign(radius - size) else 3
        return 1 + min(self.sign(radius + size - far), self.sign(far - abs(radius - size)))

    def turned(self, a, b, c):
        return self.sign((b[0] - a[0]) * (c[1] - a[1]) - (b[1] - a[1]) * (c[0] - a[0]))

    def higher(self, a, b):
        return self.sign(a[1] - b[1]) or self.sign(a[0] - b[0])

    def hull(self, points):
        """By the lower and the upper half of the hull, each from one end to the other."""
        places = sorted(range(len(points)), key=functools.cmp_to_key(lambda i, j: self.higher(points[i], points[j])))
        places = [i for k, i in enumerate(places) if k == 0 or self.higher(points[i], points[places[k - 1]])]
        halves = []
        for row in (places, places[::-1]):
            half = []
            for i in row:
                while len(half) > 1 and self.turned(points[half[-2]], points[half[-1]], points[i]) <= 0:
                    half.pop()
                half.append(i)
            halves += half[:-1]
        return halves or places

    def field(self, points):
        """By modes 0 to 3."""
        return self.doubles(sum(a[0] * b[1] - b[0] * a[1] for a, b in zip(points, points[1:] + points[:1])))

    def turn(self, line):
        """In 32nds."""
        u = line[1]
        far = math.atan2(u[1], u[0]) / math.tau * 32
        edge = round(far)
        if abs(far - edge) > 1e-6:
            return math.floor(far) % 32
        x, y = edge_of_turn(edge % 32, self.context.prec)
        return (edge if self.sign(x * u[1] - y * u[0]) >= 0 else edge - 1) % 32

    def doubles(self, x):
        """The bits by modes 0 to 3."""
        with decimal.localcontext(self.context):
            if self.sign(x) == 0:
                return [0, 0, 0, 0]
            units = abs(x) * D(2) ** 1075
            whole = units.to_integral_value(rounding=decimal.ROUND_HALF_EVEN)
            if abs(units - whole) < self.least:
                exact = fractions.Fraction(int(whole), 2**1075)
            else:
                exact = fractions.Fraction(2 * math.floor(units) + 1, 2**1076)
        return signed(by_size(exact), x < 0)


def by_size(exact):
    """Nearest, greatest not above, least not below, for a number above 0."""
    try:
        nearest = bits(exact.numerator / exact.denominator)
    except OverflowError:
        nearest = INFINITE
    under = nearest
    if nearest == INFINITE or fractions.Fraction(double(nearest)) > exact:
        under -= 1
    over = under if fractions.Fraction(double(under)) == exact else under + 1
    return nearest, under, over


def double(place):
    return struct.unpack("<d", struct.pack("<Q", place))[0]


def signed(sizes, below):
    nearest, under, over = sizes
    if below:
        return [MINUS + nearest, MINUS + over, MINUS + under, MINUS + under]
    return [nearest, under, over, under]


class Grown:
    """A drawing that grows by chance, held against decimals at each step."""

    def __init__(self, test, seed, digits, ops, most_size, most_weight, late):
        self.test = test
        self.chance = random.Random(seed)
        self.decimals = Decimals(digits)
        self.ops = ops
        self.most_size = most_size
        self.most_weight = most_weight
        self.late = late
        self.p = []
        self.things = []
        self.kinds = []
        self.weights = []
        self.roots = 0
        self.refused = 0
        self.answers = collections.Counter()

    def pick(self, wanted):
        if wanted is None:
            return 0
        of_kind = [step for step, made in enumerate(self.kinds) if made == wanted]
        if not of_kind:
            return None
        return max(self.chance.choice(of_kind) for _ in range(self.late))

    def step(self):
        op = self.chance.choice(self.ops) if len(self.kinds) > 2 else 0
        if op == 0:
            return [0, 0, 0, self.chance.randint(-self.most_size, self.most_size)]
        fields = [self.pick(wanted) for wanted in MADE_OF[op]]
        if None in fields:
            return None
        return [op] + fields + [self.chance.randint(0, 1) if op in (13, 14) else 0]

    def grow(self):
        step = self.step()
        if step is None or (self.roots == 3 and step[0] in (5, 13, 14)):
            return
        used = step[1 : 1 + how_many_used(step[0])]
        heavy = weight(step[0], sum(self.weights[k] for k in used))
        if heavy > self.most_weight:
            return
        a, b = [self.things[k] if self.things else None for k in step[1:3]]
        try:
            self.things.append(self.decimals.make(step[0], a, b, step[3]))
        except CannotBe as why:
            self.refused += 1
            self.test.assertEqual(kind(0, self.p + step), [why.args[0], 1, len(self.kinds)])
            return
        self.p += step
        self.kinds.append(MAKES.get(step[0], NUMBER))
        self.weights.append(heavy)
        self.roots += step[0] in (5, 13, 14)

    def grow_to(self, steps, tries):
        for _ in range(tries):
            if len(self.kinds) < steps:
                self.grow()

    def compare(self, last):
        """The doubles of the last and the heaviest of its numbers, and of its points' coordinates."""
        self.test.assertEqual(kind(len(self.kinds) - 1, self.p), [self.kinds[-1]])
        numbers = [step for step, made in enumerate(self.kinds) if made == NUMBER]
        heaviest = max(numbers, key=lambda step: self.weights[step])
        for step in numbers[-last:] + [heaviest]:
            wanted = self.decimals.doubles(self.things[step])
            for mode in range(4):
                self.test.assertEqual(value(step, mode, self.p), [0, 1, wanted[mode]], (step, mode, self.p))
        for step, made in enumerate(self.kinds):
            if made == POINT:
                self.point(step)

    def some(self, *wanted):
        """A step by chance that makes one of the kinds wanted; None if there's none."""
        steps = [step for step, made in enumerate(self.kinds) if made in wanted]
        return self.chance.choice(steps) if steps else None

    def tell(self, times):
        """The calls of several things, of so many chosen by chance."""
        for _ in range(times):
            self.told(level, self.some(NUMBER), self.some(NUMBER))
            self.told(level, self.some(POINT), self.some(POINT))
            self.told(side, self.some(LINE, CIRCLE), self.some(POINT))
            self.told(along, self.some(LINE), self.some(POINT), self.some(POINT))
            self.told(meets, self.some(LINE, CIRCLE), self.some(LINE, CIRCLE))
            self.turn(self.some(LINE))
        for _ in range(times // 4):
            self.rounds([self.some(POINT) for _ in range(self.chance.randint(1, 16))])

    def told(self, call, *steps):
        if None not in steps:
            wanted = self.decimals.told(call.__name__, *[self.things[step] for step in steps])
            self.test.assertEqual(call(*steps, self.p), [wanted], (call.__name__, steps, self.p))
            self.answers[call.__name__, wanted] += 1

    def rounds(self, places):
        if None in places:
            return
        points = [self.things[place] for place in places]
        corners = self.decimals.told("hull", points)
        wanted = [len(corners), len(corners)] + corners
        fields = [[0, 1, double] for double in self.decimals.told("field", points)]
        if sum(self.weights[place] for place in places) > 16384:
            wanted, fields = [-6], [[-6]] * 4
        self.test.assertEqual(hull(self.p, places), wanted, (places, self.p))
        self.answers["hull", wanted[0]] += 1
        if len(places) < 3:
            fields = [[-6]] * 4
        for mode in range(4):
            self.test.assertEqual(field(mode, self.p, places), fields[mode], (mode, places, self.p))
        self.answers["field", len({tuple(answer) for answer in fields})] += 1

    def turn(self, line):
        if line is not None:
            wanted = self.decimals.told("turn", self.things[line])
            for m in range(1, 6):
                self.test.assertEqual(turn(line, m, self.p), [0, 1, wanted >> (5 - m)], (line, m, self.p))
            self.answers["turn", wanted] += 1

    def point(self, step):
        if len(self.kinds) < 31:
            for op, place in ((7, 0), (8, 1)):
                wanted = self.decimals.doubles(self.things[step][place])[0]
                p = self.p + [op, step, 0, 0]
                self.test.assertEqual(value(len(self.kinds), 0, p), [0, 1, wanted], p)


ALL = list(range(18)) + [0, 0, 6, 6, 6, 6, 9, 9, 9, 10, 10, 11, 11, 12, 13, 13, 13, 14, 14, 14]


class Many(unittest.TestCase):
    def test_numbers(self):
        for seed in range(120):
            grown = Grown(self, seed, 3000, [0, 1, 2, 3, 4, 5], (3, 40, 9999)[seed % 3], 400, 2)
            grown.grow_to(24, 60)
            grown.compare(6)
            grown.tell(5)

    def test_figures(self):
        roots = 0
        refused = 0
        answers = collections.Counter()
        for seed in range(250):
            grown = Grown(self, seed, 3000, ALL, (2, 5, 40, 9999)[seed % 4], 8192, 1 + seed % 2)
            grown.grow_to(30, 200)
            grown.compare(4)
            grown.tell(12)
            roots += grown.roots == 3
            refused += grown.refused
            answers += grown.answers
        # Else the drawings would be too plain to tell much.
        self.assertGreater(roots, 60)
        self.assertGreater(refused, 1000)
        for call, most in (("level", 2), ("side", 2), ("along", 2), ("turn", 31), ("meets", 3)):
            for answer in range(most + 1):
                self.assertGreater(answers[call, answer], 200 // most, call)
        for corners in (-6, 1, 2, 3, 4, 5):
            self.assertGreater(answers["hull", corners], 10)
        # Fields that are doubles, and that aren't.
        for doubles in (1, 2):
            self.assertGreater(answers["field", doubles], 100)

    def test_heavy_ones(self):
        near = 0
        for seed in range(40):
            grown = Grown(self, seed, 12000, [1, 2, 3, 3, 4, 4, 5, 5], (3, 9999)[seed % 2], 8192, 4)
            grown.grow_to(32, 100)
            grown.compare(1)
            grown.tell(2)
            near += grown.roots == 3 and max(grown.weights) > 6000
        self.assertGreater(near, 10)


if __name__ == "__main__":
    unittest.main()
