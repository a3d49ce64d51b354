"""What is told of things as they lie to one another. The signs are -1, 0, 1."""

from rulercircle.figures import leftness, way_ahead, way_square, way_up
from rulercircle.tower import minus


def number_sign(tower, a, b):
    """Above 0 where number a is the greater one."""
    return tower.sign(tower.crossed(a.top, a.bottom, b.top, b.bottom))


def are_one(tower, a, b):
    """Whether two places are one."""
    return tower.sign(way_ahead(tower, a, b)) == 0 and tower.sign(way_up(tower, a, b)) == 0


def left_sign(tower, line, point):
    """Above 0 where the point lies on the line's left."""
    return tower.sign(leftness(tower, line, point))


def within_sign(tower, circle, point):
    """Above 0 where the point lies within the circle."""
    reach = tower.times(circle.reach, tower.squared(point.bottom))
    return tower.sign(minus(reach, way_square(tower, circle, point)))


def along_sign(tower, line, a, b):
    """Above 0 where point a lies further on than b, as the line points."""
    return tower.sign(tower.mixed(line.ahead, way_ahead(tower, b, a), line.rise, way_up(tower, b, a)))
