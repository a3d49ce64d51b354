"""Ways round points: the corners of their hull, and the field within."""

from rulercircle.figures import joining, leftness, way_ahead, way_up
from rulercircle.telling import are_one
from rulercircle.things import Number


def height_sign(tower, a, b):
    """Above 0 where a lies higher than b, or as high and further right; 0 where they're one."""
    sign = tower.sign(way_up(tower, b, a))
    return sign if sign != 0 else tower.sign(way_ahead(tower, b, a))


def first_places(tower, points):
    """Of the places of points that are one the first."""
    places = []
    for place in range(len(points)):
        if not any([are_one(tower, points[place], points[other]) for other in places]):
            places.append(place)
    return places


def lowest_place(tower, points, places):
    lowest = places[0]
    for place in places:
        if height_sign(tower, points[place], points[lowest]) < 0:
            lowest = place
    return lowest


def lies_outside(tower, corner, end, point):
    """Whether a point lies on the right of the way from a corner to an end, or straight behind the end."""
    sign = tower.sign(leftness(tower, joining(tower, corner, end), point))
    if sign != 0:
        return sign < 0
    # In one row heights only rise or only fall, and nothing lies beyond a corner.
    return height_sign(tower, point, end) == height_sign(tower, end, corner)


def next_corner(tower, points, places, corner):
    """The one round towards the left; None if there's no other place."""
    end = None
    for place in places:
        if place == corner:
            continue
        if end is None or lies_outside(tower, points[corner], points[end], points[place]):
            end = place
    return end


def hull_corners(tower, points):
    places = first_places(tower, points)
    corners = []
    corner = lowest_place(tower, points, places)
    while corner is not None and corner not in corners:
        corners.append(corner)
        corner = next_corner(tower, points, places, corner)
    return corners


def twice_field(tower, points):
    """Twice the field within the way round them, by triangles that have the first point as a corner."""
    first = points[0]
    top = 0
    bottom = tower.times(first.bottom, points[1].bottom)
    # The bottoms of points that are in none of the triangle's corners.
    others = 1
    for place in range(2, len(points)):
        last = points[place - 1]
        point = points[place]
        triangle = leftness(tower, joining(tower, first, last), point)
        top = tower.mixed(top, point.bottom, triangle, others)
        bottom = tower.times(bottom, point.bottom)
        others = tower.times(others, last.bottom)
    return Number(top, bottom)
