"""value: the double of a number, by each mode."""

import unittest

from rulercircle.desk import value
from tests.helper import GREATEST, INFINITE, MINUS, Sheet, bits


def answers(sheet, i):
    """The bits by modes 0, 1, 2, 3."""
    p = sheet.p
    before = list(p)
    given = [value(i, mode, p) for mode in range(4)]
    if p != before or [value(i, mode, p) for mode in range(4)] != given:
        raise AssertionError("a call leaves something behind")
    if [answer[:2] for answer in given] != [[0, 1]] * 4 or [len(answer) for answer in given] != [3] * 4:
        raise AssertionError(f"refused: {given}")
    if any(type(answer) is not list or type(answer[2]) is not int for answer in given):
        raise AssertionError("not a list of whole numbers")
    return [answer[2] for answer in given]


class Doubles(unittest.TestCase):
    def gives(self, sheet, i, nearest, not_above, not_below, to_zero):
        self.assertEqual(answers(sheet, i), [nearest, not_above, not_below, to_zero])

    def both_signs(self, sheet, i, nearest, inwards, outwards):
        """The modes for a number above 0, and for the same below it."""
        self.gives(sheet, i, nearest, inwards, outwards, inwards)
        less = sheet.minus(sheet.number(0), i)
        self.gives(sheet, less, MINUS + nearest, MINUS + outwards, MINUS + inwards, MINUS + inwards)


class CommonRange(Doubles):
    def test_whole_numbers(self):
        for v in (1, 2, 3, 7, 1024, 9999):
            sheet = Sheet()
            self.both_signs(sheet, sheet.number(v), bits(v), bits(v), bits(v))

    def test_quotients_that_are_doubles(self):
        for top, bottom in ((1, 2), (3, 8), (9999, 1024), (5, 10), (21, 7)):
            sheet = Sheet()
            exact = bits(top / bottom)
            self.both_signs(sheet, sheet.over(sheet.number(top), sheet.number(bottom)), exact, exact, exact)

    def test_signs_of_quotients(self):
        for top, bottom, double in ((-3, 4, -0.75), (3, -4, -0.75), (-3, -4, 0.75)):
            sheet = Sheet()
            i = sheet.over(sheet.number(top), sheet.number(bottom))
            self.assertEqual(answers(sheet, i), [bits(double)] * 4)

    def test_between_two_doubles(self):
        sheet = Sheet()
        third = sheet.over(sheet.number(1), sheet.number(3))
        self.both_signs(sheet, third, bits(1 / 3), bits(1 / 3), bits(1 / 3) + 1)
        sheet = Sheet()
        tenth = sheet.over(sheet.number(1), sheet.number(10))
        self.both_signs(sheet, tenth, bits(0.1), bits(0.1) - 1, bits(0.1))

    def test_root(self):
        sheet = Sheet()
        self.both_signs(sheet, sheet.root_of(2), bits(2**0.5), bits(2**0.5) - 1, bits(2**0.5))

    def beside_one(self, quarters, add=None):
        """1 and so many quarters of the way to the next double, perhaps and a very little more."""
        sheet = Sheet()
        bit = sheet.over(sheet.number(quarters), sheet.power_of_two(54))
        i = sheet.plus(sheet.number(1), bit)
        if add:
            i = sheet.plus(i, sheet.over(sheet.number(add), sheet.power_of_two(500)))
        return sheet, i

    def test_half_way(self):
        one = bits(1.0)
        self.both_signs(*self.beside_one(2), one, one, one + 1)
        self.both_signs(*self.beside_one(6), one + 2, one + 1, one + 2)
        self.both_signs(*self.beside_one(10), one + 2, one + 2, one + 3)

    def test_beside_half_way(self):
        one = bits(1.0)
        self.both_signs(*self.beside_one(1), one, one, one + 1)
        self.both_signs(*self.beside_one(3), one + 1, one, one + 1)
        self.both_signs(*self.beside_one(2, 1), one + 1, one, one + 1)
        self.both_signs(*self.beside_one(2, -1), one, one, one + 1)
        self.both_signs(*self.beside_one(6, -1), one + 1, one + 1, one + 2)
        self.both_signs(*self.beside_one(4, 1), one + 1, one + 1, one + 2)
        self.both_signs(*self.beside_one(4, -1), one + 1, one, one + 1)
        self.both_signs(*self.beside_one(4), one + 1, one + 1, one + 1)

    def test_below_one(self):
        """Below a power of two doubles lie twice as near."""
        one = bits(1.0)
        self.both_signs(*self.beside_one(-1), one, one - 1, one)
        self.both_signs(*self.beside_one(-1, -1), one - 1, one - 1, one)
        self.both_signs(*self.beside_one(-2), one - 1, one - 1, one - 1)
        self.both_signs(*self.beside_one(-3), one - 2, one - 2, one - 1)

    def test_half_way_by_way_of_roots(self):
        """1 and half a bit, as root 2 squared less that."""
        sheet = Sheet()
        root = sheet.root_of(2)
        half = sheet.over(sheet.number(1), sheet.power_of_two(53))
        i = sheet.minus(sheet.plus(sheet.times(root, root), half), sheet.number(1))
        self.both_signs(sheet, i, bits(1.0), bits(1.0), bits(1.0) + 1)


class Zero(Doubles):
    def is_zero(self, sheet, i):
        self.gives(sheet, i, 0, 0, 0, 0)

    def test_plain(self):
        sheet = Sheet()
        zero = sheet.number(0)
        self.is_zero(sheet, zero)
        self.is_zero(sheet, sheet.root(zero))
        self.is_zero(sheet, sheet.minus(zero, zero))
        self.is_zero(sheet, sheet.over(zero, sheet.number(-3)))
        self.is_zero(sheet, sheet.times(zero, sheet.number(-3)))

    def test_product_of_roots(self):
        sheet = Sheet()
        product = sheet.times(sheet.root_of(2), sheet.root_of(3))
        six = sheet.root_of(6)
        self.is_zero(sheet, sheet.minus(product, six))
        self.is_zero(sheet, sheet.minus(six, product))

    def test_roots_of_squares(self):
        sheet = Sheet()
        self.is_zero(sheet, sheet.minus(sheet.root_of(9), sheet.number(3)))
        self.is_zero(sheet, sheet.minus(sheet.root_of(8), sheet.times(sheet.root_of(2), sheet.number(2))))

    def test_nested_roots(self):
        """root (3 + 2 root 2) is 1 + root 2."""
        sheet = Sheet()
        two = sheet.number(2)
        root = sheet.root(two)
        nested = sheet.root(sheet.plus(sheet.number(3), sheet.times(two, root)))
        self.is_zero(sheet, sheet.minus(nested, sheet.plus(root, sheet.number(1))))

    def test_sum_of_nested_roots(self):
        """root (3 + root 5) and root (3 - root 5) are root 10."""
        sheet = Sheet()
        three = sheet.number(3)
        five = sheet.root_of(5)
        both = sheet.plus(sheet.root(sheet.plus(three, five)), sheet.root(sheet.minus(three, five)))
        self.is_zero(sheet, sheet.minus(sheet.times(both, both), sheet.number(10)))

    def test_points_that_are_one(self):
        """The apex over two points, by circles and by its coordinates."""
        sheet = Sheet()
        first = sheet.point(0, 0)
        second = sheet.point(2, 0)
        apex = sheet.put(14, sheet.circle(first, second), sheet.circle(second, first), 0)
        same = sheet.at(sheet.number(1), sheet.root_of(3))
        self.is_zero(sheet, sheet.put(17, apex, same))

    def test_right_angle_in_a_half_circle(self):
        sheet = Sheet()
        left = sheet.point(-5, 0)
        right = sheet.point(5, 0)
        chord = sheet.line(sheet.point(0, 1), sheet.point(2, 4))
        on = sheet.put(13, chord, sheet.circle(sheet.point(0, 0), right), 1)
        legs = sheet.plus(sheet.put(17, left, on), sheet.put(17, right, on))
        self.is_zero(sheet, sheet.minus(legs, sheet.number(100)))


class Edges(Doubles):
    """At and beyond the ends of the doubles' range."""

    def test_too_large(self):
        sheet = Sheet()
        self.both_signs(sheet, sheet.power_of_two(1024), INFINITE, GREATEST, INFINITE)
        sheet = Sheet()
        self.both_signs(sheet, sheet.power_of_two(6656), INFINITE, GREATEST, INFINITE)

    def greatest_and(self, quarters):
        """2 to the 1024, less a bit of 2 to the 971, and so many quarters of such a bit."""
        sheet = Sheet()
        most = sheet.over(sheet.power_of_two(1024), sheet.power_of_two(53))
        many = sheet.minus(sheet.power_of_two(53), sheet.number(1))
        parts = sheet.plus(many, sheet.over(sheet.number(quarters), sheet.number(4)))
        return sheet, sheet.times(most, parts)

    def test_greatest(self):
        self.both_signs(*self.greatest_and(0), GREATEST, GREATEST, GREATEST)
        self.both_signs(*self.greatest_and(-1), GREATEST, GREATEST - 1, GREATEST)
        self.both_signs(*self.greatest_and(1), GREATEST, GREATEST, INFINITE)
        self.both_signs(*self.greatest_and(3), INFINITE, GREATEST, INFINITE)

    def test_half_way_to_the_infinite(self):
        self.both_signs(*self.greatest_and(2), INFINITE, GREATEST, INFINITE)

    def small(self, top, exponent):
        sheet = Sheet()
        return sheet, sheet.over(sheet.number(top), sheet.power_of_two(exponent))

    def test_too_small(self):
        self.both_signs(*self.small(1, 6656), 0, 0, 1)
        self.both_signs(*self.small(1, 1076), 0, 0, 1)
        self.both_signs(*self.small(1, 1075), 0, 0, 1)
        self.both_signs(*self.small(3, 1076), 1, 0, 1)
        self.both_signs(*self.small(5, 1077), 1, 0, 1)
        self.both_signs(*self.small(3, 1077), 0, 0, 1)

    def test_zero_has_a_sign_where_the_number_has(self):
        sheet, i = self.small(-1, 1080)
        self.gives(sheet, i, 0x8000000000000000, 0x8000000000000001, 0x8000000000000000, 0x8000000000000000)
        sheet, i = self.small(1, 1080)
        self.gives(sheet, i, 0, 0, 1, 0)

    def test_small_range(self):
        self.both_signs(*self.small(1, 1074), 1, 1, 1)
        self.both_signs(*self.small(3, 1074), 3, 3, 3)
        self.both_signs(*self.small(3, 1075), 2, 1, 2)
        self.both_signs(*self.small(5, 1075), 2, 2, 3)
        self.both_signs(*self.small(11, 1076), 3, 2, 3)
        self.both_signs(*self.small(1, 1023), 1 << 51, 1 << 51, 1 << 51)
        self.both_signs(*self.small(9999, 1074), 9999, 9999, 9999)

    def test_between_the_small_and_the_common_range(self):
        common = 1 << 52
        self.both_signs(*self.small(1, 1022), common, common, common)
        sheet = Sheet()
        many = sheet.minus(sheet.power_of_two(53), sheet.number(1))
        half = sheet.over(many, sheet.power_of_two(1075))
        self.both_signs(sheet, half, common, common - 1, common)
        sheet = Sheet()
        many = sheet.minus(sheet.power_of_two(52), sheet.number(1))
        self.both_signs(sheet, sheet.over(many, sheet.power_of_two(1074)), common - 1, common - 1, common - 1)
        sheet = Sheet()
        many = sheet.plus(sheet.power_of_two(53), sheet.number(1))
        half = sheet.over(many, sheet.power_of_two(1075))
        self.both_signs(sheet, half, common, common, common + 1)

    def test_small_by_way_of_roots(self):
        """The root of 2 to the -2149 is half of the least double, times root 2."""
        sheet = Sheet()
        self.both_signs(sheet, sheet.root(sheet.over(sheet.number(2), sheet.power_of_two(2150))), 1, 0, 1)
        sheet = Sheet()
        self.both_signs(sheet, sheet.root(sheet.over(sheet.number(1), sheet.power_of_two(2150))), 0, 0, 1)
        sheet = Sheet()
        self.both_signs(sheet, sheet.root(sheet.over(sheet.number(1), sheet.power_of_two(2148))), 1, 1, 1)

    def test_large_by_way_of_roots(self):
        sheet = Sheet()
        self.both_signs(sheet, sheet.root(sheet.power_of_two(2048)), INFINITE, GREATEST, INFINITE)
        sheet = Sheet()
        double = bits(2.0**1023)
        self.both_signs(sheet, sheet.root(sheet.power_of_two(2046)), double, double, double)


if __name__ == "__main__":
    unittest.main()
