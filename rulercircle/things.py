"""What steps make. Their parts are a tower's real numbers; a bottom is always above 0."""


class Number:
    """top / bottom"""

    def __init__(self, top, bottom):
        self.top = top
        self.bottom = bottom


class Point:
    """(x / bottom, y / bottom)"""

    def __init__(self, x, y, bottom):
        self.x = x
        self.y = y
        self.bottom = bottom


class Line:
    """The points (x, y) where ahead y - rise x + shift is 0; on the line's left it's above 0.

    The direction is (ahead, rise).
    """

    def __init__(self, ahead, rise, shift):
        self.ahead = ahead
        self.rise = rise
        self.shift = shift


class Circle:
    """About (x / bottom, y / bottom); the radius's square is reach / (bottom bottom)."""

    def __init__(self, x, y, bottom, reach):
        self.x = x
        self.y = y
        self.bottom = bottom
        self.reach = reach
