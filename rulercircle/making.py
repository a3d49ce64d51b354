"""How each op makes its thing of the things a, b and of v; those that an op doesn't use it leaves alone."""

from rulercircle.figures import chord_square, common_line, joining, leftness, length_square, refuse_no_way, way_square
from rulercircle.refusals import Apart, BelowZero, DividedByZero, Undetermined
from rulercircle.things import Circle, Number, Point
from rulercircle.tower import plus, scaled


def number_told(tower, a, b, v):
    return Number(v, 1)


def number_sum(tower, a, b, v):
    return Number(tower.mixed(a.top, b.bottom, b.top, a.bottom), tower.times(a.bottom, b.bottom))


def number_difference(tower, a, b, v):
    return Number(tower.crossed(a.top, a.bottom, b.top, b.bottom), tower.times(a.bottom, b.bottom))


def number_product(tower, a, b, v):
    return Number(tower.times(a.top, b.top), tower.times(a.bottom, b.bottom))


def number_quotient(tower, a, b, v):
    sign = tower.sign(b.top)
    if sign == 0:
        raise DividedByZero()
    top = tower.times(a.top, b.bottom)
    bottom = tower.times(a.bottom, b.top)
    return Number(scaled(top, sign), scaled(bottom, sign))


def number_root(tower, a, b, v):
    root = tower.root(tower.times(a.top, a.bottom))
    if root is None:
        raise BelowZero()
    return Number(root, a.bottom)


def point_told(tower, a, b, v):
    bottom = tower.times(a.bottom, b.bottom)
    return Point(tower.times(a.top, b.bottom), tower.times(b.top, a.bottom), bottom)


def number_x(tower, a, b, v):
    return Number(a.x, a.bottom)


def number_y(tower, a, b, v):
    return Number(a.y, a.bottom)


def line_through(tower, a, b, v):
    line = joining(tower, a, b)
    refuse_no_way(tower, line.ahead, line.rise)
    return line


def circle_about(tower, centre, bottom, reach):
    """A circle whose reach is told over the centre's bottom times another one."""
    x = tower.times(centre.x, bottom)
    y = tower.times(centre.y, bottom)
    return Circle(x, y, tower.times(centre.bottom, bottom), reach)


def circle_through(tower, a, b, v):
    return circle_about(tower, a, b.bottom, way_square(tower, a, b))


def circle_of_square(tower, a, b, v):
    if tower.sign(b.top) < 0:
        raise BelowZero()
    reach = tower.times(tower.times(b.top, b.bottom), tower.squared(a.bottom))
    return circle_about(tower, a, b.bottom, reach)


def lines_meeting(tower, a, b, v):
    bottom = tower.crossed(a.ahead, a.rise, b.ahead, b.rise)
    sign = tower.sign(bottom)
    if sign == 0:
        raise Undetermined()
    x = tower.crossed(a.ahead, a.shift, b.ahead, b.shift)
    y = tower.crossed(a.rise, a.shift, b.rise, b.shift)
    return Point(scaled(x, sign), scaled(y, sign), scaled(bottom, sign))


def line_meeting_circle(tower, a, b, v):
    root = tower.root(chord_square(tower, a, b))
    if root is None:
        raise Apart()
    square = length_square(tower, a.ahead, a.rise)
    left = leftness(tower, a, b)
    along = root if v == 1 else scaled(root, -1)
    # From the centre straight over to the line, then along it.
    ahead = tower.mixed(along, a.ahead, left, a.rise)
    rise = tower.crossed(along, left, a.ahead, a.rise)
    x = plus(tower.times(b.x, square), ahead)
    y = plus(tower.times(b.y, square), rise)
    return Point(x, y, tower.times(b.bottom, square))


def circles_meeting(tower, a, b, v):
    # As the line points to the left, its last point is the one on the left.
    return line_meeting_circle(tower, common_line(tower, a, b), a, 1 - v)


def point_between(tower, a, b, v):
    x = tower.mixed(a.x, b.bottom, b.x, a.bottom)
    y = tower.mixed(a.y, b.bottom, b.y, a.bottom)
    return Point(x, y, scaled(tower.times(a.bottom, b.bottom), 2))


def point_mirrored(tower, a, b, v):
    square = length_square(tower, b.ahead, b.rise)
    twice = scaled(leftness(tower, b, a), 2)
    x = tower.mixed(a.x, square, twice, b.rise)
    y = tower.crossed(a.y, twice, b.ahead, square)
    return Point(x, y, tower.times(a.bottom, square))


def number_distance(tower, a, b, v):
    return Number(way_square(tower, a, b), tower.squared(tower.times(a.bottom, b.bottom)))


# By op, from 0 on.
MAKERS = (
    number_told,
    number_sum,
    number_difference,
    number_product,
    number_quotient,
    number_root,
    point_told,
    number_x,
    number_y,
    line_through,
    circle_through,
    circle_of_square,
    lines_meeting,
    line_meeting_circle,
    circles_meeting,
    point_between,
    point_mirrored,
    number_distance,
)
