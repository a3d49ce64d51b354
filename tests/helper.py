"""What the tests share: drawings put down step by step, how calls are asked, and doubles by their bits."""

import copy
import itertools
import struct

from rulercircle.desk import along, field, hull, kind, level, meets, side, turn, value

NUMBER, POINT, LINE, CIRCLE = 0, 1, 2, 3

INFINITE = 0x7FF0000000000000
GREATEST = 0x7FEFFFFFFFFFFFFF
MINUS = 0x8000000000000000

LARGEST = 9223372036854775807

DIRECTIONS = [(x, y) for x in range(-3, 4) for y in range(-3, 4) if (x, y) != (0, 0)]


def bits(double):
    return struct.unpack("<Q", struct.pack("<d", double))[0]


def ask(call, *given):
    """What a call answers: a list of whole numbers, and the same again, what is handed in being left as it was."""
    before = copy.deepcopy(given)
    answer = call(*given)
    again = call(*given)
    if given != before:
        raise AssertionError(f"{call.__name__} changed what was handed in")
    if again != answer or again is answer:
        raise AssertionError(f"{call.__name__} keeps something")
    if type(answer) is not list or any(type(part) is not int for part in answer):
        raise AssertionError(f"{call.__name__} answers {answer!r}")
    return answer


def every_answer(p):
    """Each call's answers to a drawing, asked for what is there and for what isn't."""
    places = (0, len(p) // 4 - 1, len(p) // 4, LARGEST) if p else (0, LARGEST)
    for i in places:
        yield ask(kind, i, p)
        for mode in (0, 3, 4, LARGEST):
            yield ask(value, i, mode, p)
        for m in (0, 1, 5, 6, LARGEST):
            yield ask(turn, i, m, p)
    for i, j in itertools.product(places, repeat=2):
        yield ask(level, i, j, p)
        yield ask(side, i, j, p)
        yield ask(meets, i, j, p)
        for k in (0, LARGEST):
            yield ask(along, i, j, k, p)
    for s in ([], [0], [len(p) // 4 - 1] * 3, [LARGEST] * 16, [0] * 17, [0] * 100):
        yield ask(hull, p, s)
        for mode in (0, 4, LARGEST):
            yield ask(field, mode, p, s)


def how_many_used(op):
    if op == 0:
        return 0
    return 1 if op in (5, 7, 8) else 2


def weight(op, both):
    """A step's weight, of that of the steps it's made of together."""
    if op == 0:
        return 14
    if op in (1, 2):
        return both + 1
    return both * {12: 4, 13: 8, 14: 8, 16: 8, 17: 2}.get(op, 1)


class Sheet:
    """A drawing in the making; each method gives back its step's number."""

    def __init__(self):
        self.steps = []
        self.weights = []
        self.known = {}

    @property
    def p(self):
        return [field for step in self.steps for field in step]

    def put(self, op, a=0, b=0, v=0):
        self.steps.append((op, a, b, v))
        used = ((), (a,), (a, b))[how_many_used(op)]
        both = sum(self.weights[step] for step in used if step < len(self.weights))
        self.weights.append(weight(op, both))
        return len(self.steps) - 1

    def number(self, v):
        """A step of op 0; the same step for the same v, as there are but 32."""
        if v not in self.known:
            self.known[v] = self.put(0, v=v)
        return self.known[v]

    def plus(self, a, b):
        return self.put(1, a, b)

    def minus(self, a, b):
        return self.put(2, a, b)

    def times(self, a, b):
        return self.put(3, a, b)

    def over(self, a, b):
        return self.put(4, a, b)

    def root(self, a):
        return self.put(5, a)

    def root_of(self, v):
        return self.root(self.number(v))

    def at(self, a, b):
        return self.put(6, a, b)

    def point(self, x, y):
        if (x, y) not in self.known:
            self.known[x, y] = self.at(self.number(x), self.number(y))
        return self.known[x, y]

    def line(self, a, b):
        return self.put(9, a, b)

    def circle(self, a, b):
        return self.put(10, a, b)

    def disc(self, centre, square):
        return self.put(11, centre, self.number(square))

    def x(self, a):
        return self.put(7, a)

    def y(self, a):
        return self.put(8, a)

    def crossing(self, a, b):
        return self.put(12, a, b)

    def chord(self, line, circle, v):
        return self.put(13, line, circle, v)

    def shared(self, a, b, v):
        return self.put(14, a, b, v)

    def middle(self, a, b):
        return self.put(15, a, b)

    def mirrored(self, a, line):
        return self.put(16, a, line)

    def apex(self, first, second, v=0):
        """The third corner of a triangle of equal sides on two points: for v 0 on the left of the way between them."""
        return self.shared(self.circle(first, second), self.circle(second, first), v)

    def heights(self, corners):
        """The three lines from a triangle's corners straight over to the sides across."""
        lines = []
        for k in range(3):
            across = self.line(corners[k - 1], corners[k - 2])
            lines.append(self.line(corners[k], self.mirrored(corners[k], across)))
        return lines

    def power_of_two(self, exponent):
        """2 to the exponent, by halves, so that 32 steps are enough."""
        if exponent <= 13:
            return self.number(1 << exponent)
        half = self.power_of_two(exponent // 2)
        whole = self.times(half, half)
        return whole if exponent % 2 == 0 else self.times(whole, self.number(2))

    def heavy(self, weight):
        """A number above 0, just of that weight."""
        way = shortest_way(weight)
        last = self.number(1)
        for op, twice in way:
            last = self.put(op, last, last if twice else self.number(1))
        return last


def two_of_each():
    """A drawing, and by kinds its steps: two numbers, two points, two lines, two circles."""
    sheet = Sheet()
    numbers = [sheet.number(3), sheet.number(4)]
    points = [sheet.at(0, 0), sheet.at(0, 1)]
    lines = [sheet.line(*points), sheet.line(*reversed(points))]
    circles = [sheet.circle(*points), sheet.disc(points[0], 3)]
    return sheet.p, (numbers, points, lines, circles)


def shortest_way(weight):
    """The ops by which a number of weight 14 comes to a weight: with itself, or with another such number."""
    rows = [(weight, ())]
    while rows:
        following = []
        for left, way in rows:
            if left == 14:
                return way
            if left < 28:
                continue
            following.append(((left - left % 2) // 2, ((1 if left % 2 else 3, True),) + way))
            following.append((left - 14, ((3, False),) + way))
            following.append((left - 15, ((1, False),) + way))
        rows = list(dict(reversed(following)).items())
    raise ValueError(f"no number weighs {weight}")
