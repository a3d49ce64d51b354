"""-7 and -1: drawings of too few or too many steps, and steps that are told wrong."""

import unittest

from rulercircle.desk import kind
from tests.helper import LARGEST, Sheet, every_answer


class Refusing(unittest.TestCase):
    """All calls refuse alike, whatever else they are asked."""

    def refuses(self, p, answer):
        for given in every_answer(p):
            self.assertEqual(given, answer)

    def takes(self, p):
        self.assertIn(kind(0, p), ([0], [1], [2], [3]))

    def wrong_last(self, p):
        """The last step is told wrong, and none before it."""
        self.refuses(p, [-1, 1, len(p) // 4 - 1])


class HowMany(Refusing):
    def test_counts(self):
        step = [0, 0, 0, 1]
        self.refuses([], [-7])
        self.takes(step)
        self.takes(step * 2)
        self.takes(step * 32)
        self.refuses(step * 33, [-7])
        self.refuses(step * 34, [-7])
        self.refuses(step * 100, [-7])

    def test_before_all_else(self):
        self.refuses([18, 0, 0, 0] * 33, [-7])
        self.refuses([0, 0, 0, 10000] + [0, 0, 0, 1] * 32, [-7])
        self.refuses([0, 0, 0, 0, 4, 0, 0, 0] + [0, 0, 0, 1] * 31, [-7])
        self.refuses([0, 0, 0, 1] * 32 + [18, 0, 0, 0], [-7])


def things():
    """Steps 0, 1: numbers; 2, 3: points; 4, 5: lines; 6, 7: circles."""
    sheet = Sheet()
    sheet.number(1)
    sheet.number(4)
    sheet.at(0, 0)
    sheet.at(1, 0)
    sheet.line(2, 3)
    sheet.line(3, 2)
    sheet.circle(2, 3)
    sheet.circle(3, 2)
    return sheet


KINDS = {"number": (0, 1), "point": (2, 3), "line": (4, 5), "circle": (6, 7)}

# What each op is of; op 12's lines would be one here, which doesn't matter to how it's told.
USES = {
    1: ("number", "number"),
    2: ("number", "number"),
    3: ("number", "number"),
    4: ("number", "number"),
    5: ("number", None),
    6: ("number", "number"),
    7: ("point", None),
    8: ("point", None),
    9: ("point", "point"),
    10: ("point", "point"),
    11: ("point", "number"),
    12: ("line", "line"),
    13: ("line", "circle"),
    14: ("circle", "circle"),
    15: ("point", "point"),
    16: ("point", "line"),
    17: ("point", "point"),
}


def right_step(op):
    first, second = USES[op]
    return [op, KINDS[first][0], KINDS[second][1] if second else 0, 0]


class Fields(Refusing):
    def drawn(self, step):
        return things().p + step

    def test_right_ones(self):
        self.takes(things().p)
        for op in USES:
            if op != 12:
                self.takes(self.drawn(right_step(op)))
        self.refuses(self.drawn(right_step(12)), [-4, 1, 8])

    def test_op(self):
        for op in (18, 19, 255, 2**32, LARGEST):
            self.wrong_last([op, 0, 0, 0])
            self.wrong_last(self.drawn([op, 0, 0, 0]))

    def test_a_of_another_kind(self):
        for op, used in USES.items():
            for name, steps in KINDS.items():
                if name != used[0]:
                    for a in steps:
                        with self.subTest(op=op, a=a):
                            step = right_step(op)
                            step[1] = a
                            self.wrong_last(self.drawn(step))

    def test_b_of_another_kind(self):
        for op, used in USES.items():
            for name, steps in KINDS.items():
                if used[1] and name != used[1]:
                    for b in steps:
                        with self.subTest(op=op, b=b):
                            step = right_step(op)
                            step[2] = b
                            self.wrong_last(self.drawn(step))

    def test_not_below_its_own_number(self):
        for op, used in USES.items():
            for field in (1, 2) if used[1] else (1,):
                for far in (8, 9, 100, LARGEST):
                    with self.subTest(op=op, field=field, far=far):
                        step = right_step(op)
                        step[field] = far
                        self.wrong_last(self.drawn(step))

    def test_a_later_step_of_the_right_kind(self):
        step = [0, 0, 0, 1]
        self.refuses(step + [1, 0, 2, 0] + step, [-1, 1, 1])
        self.refuses(step + [1, 2, 0, 0] + step, [-1, 1, 1])
        self.refuses(step + [1, 1, 0, 0] + step, [-1, 1, 1])
        self.refuses([1, 0, 0, 0], [-1, 1, 0])

    def test_fields_that_are_not_used(self):
        for other in (1, 2, 7, 8, LARGEST):
            self.wrong_last(self.drawn([0, other, 0, 5]))
            self.wrong_last(self.drawn([0, 0, other, 5]))
            for op in (5, 7, 8):
                step = right_step(op)
                step[2] = other
                self.wrong_last(self.drawn(step))
        self.wrong_last([0, 1, 0, 0])
        self.wrong_last([0, 0, 1, 0])

    def test_v_where_it_is_not_used(self):
        for op in USES:
            if op not in (13, 14):
                for v in (1, -1, LARGEST, -LARGEST):
                    with self.subTest(op=op, v=v):
                        step = right_step(op)
                        step[3] = v
                        self.wrong_last(self.drawn(step))

    def test_v_of_numbers(self):
        for v in (-9999, -9998, -1, 0, 1, 9998, 9999):
            self.takes([0, 0, 0, v])
        for v in (-10000, 10000, -10001, 10001, LARGEST, -LARGEST):
            self.wrong_last([0, 0, 0, v])
            self.wrong_last(self.drawn([0, 0, 0, v]))

    def test_v_of_meetings(self):
        for op in (13, 14):
            step = right_step(op)
            for v in (0, 1):
                step[3] = v
                self.takes(self.drawn(step))
            for v in (-1, 2, -2, 3, LARGEST, -LARGEST):
                step[3] = v
                with self.subTest(op=op, v=v):
                    self.wrong_last(self.drawn(step))


class Roots(Refusing):
    def test_fourth_of_each(self):
        for ops in ((5, 5, 5), (13, 13, 13), (14, 14, 14), (5, 13, 14), (14, 5, 13), (13, 14, 5)):
            p = things().p
            for op in ops:
                p += right_step(op)
            self.takes(p)
            for op in (5, 13, 14):
                with self.subTest(ops=ops, op=op):
                    self.wrong_last(p + right_step(op))
                    self.refuses(p + [0, 0, 0, 7] + right_step(op) + [0, 0, 0, 7], [-1, 1, 12])

    def test_roots_of_squares_count_too(self):
        p = things().p + [5, 0, 0, 0] * 3
        self.takes(p)
        self.wrong_last(p + [5, 1, 0, 0])

    def test_other_steps_do_not_count(self):
        p = things().p + right_step(5) + right_step(13) + right_step(14)
        for op in USES:
            if op not in (5, 12, 13, 14):
                p += right_step(op)
        self.takes(p)


if __name__ == "__main__":
    unittest.main()
