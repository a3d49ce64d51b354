"""Exact real numbers: whole numbers, with square roots put to them one above another.

A real number is an int, or (k, a, b) for a + b * r: r is the k-th root that was put to
the tower, and a and b are made of whole numbers and of the roots before r alone.

Nothing is divided here, so that numbers grow no faster than the weights of steps do.
It does no harm if a root is made of the roots before it, as the root of 8 is of that
of 2: a number can then be written in more than one way, and `sign` is right for each.
"""


def height(x):
    return 0 if isinstance(x, int) else x[0]


def joined(k, a, b):
    return a if b == 0 else (k, a, b)


def plus(x, y):
    k = height(x)
    if k < height(y):
        return plus(y, x)
    if k == 0:
        return x + y
    if k > height(y):
        return (k, plus(x[1], y), x[2])
    return joined(k, plus(x[1], y[1]), plus(x[2], y[2]))


def scaled(x, whole):
    """x, times a whole number."""
    if isinstance(x, int):
        return x * whole
    return joined(x[0], scaled(x[1], whole), scaled(x[2], whole))


def minus(x, y):
    return plus(x, scaled(y, -1))


class Tower:
    """The roots that a drawing's steps have put to the whole numbers."""

    def __init__(self):
        self.radicands = []

    def root(self, x):
        """The root of x, not below 0; None where x is below 0."""
        sign = self.sign(x)
        if sign < 0:
            return None
        # A root of 0 isn't put to the tower: all roots in it are above 0, as `sign` needs it.
        if sign == 0:
            return 0
        self.radicands.append(x)
        return (len(self.radicands), 0, 1)

    def times(self, x, y):
        k = height(x)
        if k < height(y):
            return self.times(y, x)
        if k == 0:
            return x * y
        if k > height(y):
            return joined(k, self.times(x[1], y), self.times(x[2], y))
        roots = self.times(self.times(x[2], y[2]), self.radicands[k - 1])
        return joined(k, plus(self.times(x[1], y[1]), roots), self.mixed(x[1], y[2], x[2], y[1]))

    def squared(self, x):
        return self.times(x, x)

    def mixed(self, a, b, c, d):
        """a b + c d"""
        return plus(self.times(a, b), self.times(c, d))

    def crossed(self, a, b, c, d):
        """a d - b c"""
        return minus(self.times(a, d), self.times(b, c))

    def sign(self, x):
        """-1, 0, 1: x is below 0, is 0, is above 0."""
        if isinstance(x, int):
            return -1 if x < 0 else min(x, 1)
        plain = self.sign(x[1])
        rooted = self.sign(x[2])
        if rooted == 0 or plain == rooted:
            return plain
        if plain == 0:
            return rooted
        # The two parts pull against one another: the one with the greater square wins.
        square = self.times(self.squared(x[2]), self.radicands[x[0] - 1])
        return plain * self.sign(minus(self.squared(x[1]), square))
