"""kind: what a step of each op makes, and which i are steps."""

import unittest

from rulercircle.desk import kind
from tests.helper import CIRCLE, LARGEST, LINE, NUMBER, POINT, Sheet


def one_of_each():
    """A drawing with a step of each op: the steps by their ops, and p."""
    sheet = Sheet()
    steps = {}
    steps[0] = sheet.number(3)
    one = sheet.number(1)
    for op in (1, 2, 3, 4):
        steps[op] = sheet.put(op, 0, one)
    steps[5] = sheet.root(0)
    steps[6] = sheet.at(0, one)
    other = sheet.at(one, 0)
    steps[7] = sheet.put(7, other)
    steps[8] = sheet.put(8, other)
    steps[9] = sheet.line(steps[6], other)
    steps[10] = sheet.circle(other, steps[6])
    steps[11] = sheet.put(11, steps[6], 0)
    steps[12] = sheet.put(12, steps[9], sheet.line(steps[6], sheet.at(one, one)))
    steps[13] = sheet.put(13, steps[9], steps[11], 1)
    steps[14] = sheet.put(14, steps[10], steps[11], 1)
    steps[15] = sheet.put(15, steps[6], other)
    steps[16] = sheet.put(16, steps[12], steps[9])
    steps[17] = sheet.put(17, steps[6], other)
    return steps, sheet.p


class Kind(unittest.TestCase):
    def test_each_op(self):
        steps, p = one_of_each()
        makes = {
            NUMBER: (0, 1, 2, 3, 4, 5, 7, 8, 17),
            POINT: (6, 12, 13, 14, 15, 16),
            LINE: (9,),
            CIRCLE: (10, 11),
        }
        self.assertEqual(sorted(op for ops in makes.values() for op in ops), list(range(18)))
        for answer, ops in makes.items():
            for op in ops:
                with self.subTest(op=op):
                    self.assertEqual(kind(steps[op], p), [answer])

    def test_one_step(self):
        self.assertEqual(kind(0, [0, 0, 0, 7]), [0])
        self.assertEqual(kind(1, [0, 0, 0, 7]), [-6])

    def test_last_step_and_behind_it(self):
        p = one_of_each()[1]
        last = len(p) // 4 - 1
        self.assertEqual(kind(last, p), [0])
        for i in (last + 1, last + 2, 4 * last, len(p), 99, LARGEST - 1, LARGEST):
            with self.subTest(i=i):
                self.assertEqual(kind(i, p), [-6])

    def test_thirty_two_steps(self):
        p = [0, 0, 0, 1] * 31 + [6, 30, 2, 0]
        self.assertEqual(kind(31, p), [1])
        self.assertEqual(kind(30, p), [0])
        self.assertEqual(kind(32, p), [-6])

    def test_nothing_is_changed_or_kept(self):
        p = one_of_each()[1]
        before = list(p)
        answers = [kind(i, p) for i in range(len(p) // 4 + 1)]
        self.assertEqual(p, before)
        self.assertEqual([kind(i, p) for i in range(len(p) // 4 + 1)], answers)
        answers[0].append(5)
        self.assertEqual(kind(0, p), [0])
        self.assertEqual(kind(0, [18, 0, 0, 0]), [-1, 1, 0])
        self.assertEqual(kind(0, p), [0])

    def test_answers_are_plain(self):
        p = one_of_each()[1]
        for i in range(len(p) // 4 + 1):
            answer = kind(i, p)
            self.assertIs(type(answer), list)
            self.assertIs(type(answer[0]), int)


if __name__ == "__main__":
    unittest.main()
