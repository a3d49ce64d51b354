"""Where points, lines and circles lie to one another: what steps are made of, and what is told of them.

A point and a circle are used alike where only the place is asked for: a circle's is its centre.
"""

from rulercircle.refusals import Undetermined
from rulercircle.things import Line
from rulercircle.tower import minus, plus, scaled


def way_ahead(tower, a, b):
    """How far b lies to the right of a, times both bottoms."""
    return tower.crossed(a.bottom, a.x, b.bottom, b.x)


def way_up(tower, a, b):
    """How far b lies above a, times both bottoms."""
    return tower.crossed(a.bottom, a.y, b.bottom, b.y)


def refuse_no_way(tower, ahead, rise):
    if tower.sign(ahead) == 0 and tower.sign(rise) == 0:
        raise Undetermined()


def length_square(tower, ahead, rise):
    return tower.mixed(ahead, ahead, rise, rise)


def way_square(tower, a, b):
    """The square of the distance of a and b, times those of both bottoms."""
    return length_square(tower, way_ahead(tower, a, b), way_up(tower, a, b))


def joining(tower, a, b):
    """The line from a towards b; all of it is 0 where they're one."""
    return Line(way_ahead(tower, a, b), way_up(tower, a, b), tower.crossed(a.x, a.y, b.x, b.y))


def leftness(tower, line, place):
    """How far a place lies on the line's left, times its bottom and the direction's length."""
    turned = tower.crossed(line.ahead, line.rise, place.x, place.y)
    return plus(turned, tower.times(line.shift, place.bottom))


def chord_square(tower, line, circle):
    """The square of half the line's way through the circle, times those of the bottom and the direction's length.

    It's 0 where they touch, and below 0 where they don't meet.
    """
    square = length_square(tower, line.ahead, line.rise)
    return minus(tower.times(circle.reach, square), tower.squared(leftness(tower, line, circle)))


def origin_power(tower, circle):
    """The square of the centre's way from (0, 0), less the radius's, times the bottom's."""
    return minus(length_square(tower, circle.x, circle.y), circle.reach)


def common_line(tower, a, b):
    """The line on which the circles meet, if they do; it points to the left of the way between their centres."""
    ahead = way_ahead(tower, a, b)
    rise = way_up(tower, a, b)
    refuse_no_way(tower, ahead, rise)
    twice = scaled(tower.times(a.bottom, b.bottom), 2)
    first = tower.times(origin_power(tower, a), tower.squared(b.bottom))
    second = tower.times(origin_power(tower, b), tower.squared(a.bottom))
    return Line(scaled(tower.times(rise, twice), -1), tower.times(ahead, twice), minus(second, first))
