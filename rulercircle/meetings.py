"""How many points two figures have in common."""

from rulercircle.figures import chord_square, way_square
from rulercircle.telling import are_one
from rulercircle.tower import minus, plus, scaled

# What's told of figures that are one.
ALL = 3


def lines_common(tower, a, b):
    if tower.sign(tower.crossed(a.ahead, a.rise, b.ahead, b.rise)) != 0:
        return 1
    if tower.sign(tower.crossed(a.ahead, a.shift, b.ahead, b.shift)) != 0:
        return 0
    return ALL if tower.sign(tower.crossed(a.rise, a.shift, b.rise, b.shift)) == 0 else 0


def chord_common(tower, line, circle):
    return 1 + tower.sign(chord_square(tower, line, circle))


def circles_common(tower, a, b):
    first = tower.times(a.reach, tower.squared(b.bottom))
    second = tower.times(b.reach, tower.squared(a.bottom))
    # Of a triangle with both radii and the way of the centres as its sides: how far it is from lying flat.
    over = minus(plus(first, second), way_square(tower, a, b))
    sign = tower.sign(minus(scaled(tower.times(first, second), 4), tower.squared(over)))
    return ALL if sign == 0 and are_one(tower, a, b) else 1 + sign
