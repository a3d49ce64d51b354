"""The calls: what is asked of a drawing, and the lists of whole numbers that answer it."""

from rulercircle.doubles import MOST_MODE, bits_of
from rulercircle.drawing import Drawing
from rulercircle.meetings import chord_common, circles_common, lines_common
from rulercircle.rounds import hull_corners, twice_field
from rulercircle.steps import CIRCLE, LINE, NUMBER, POINT, count_steps, kind_of, makes, places_right
from rulercircle.telling import along_sign, are_one, left_sign, number_sign, within_sign
from rulercircle.turning import LEAST_HALVINGS, MOST_HALVINGS, pieces_of_turn


def kind(i, p):
    drawing = Drawing(p)
    if drawing.refused:
        return drawing.refused
    if i >= count_steps(p):
        return [-6]
    return [kind_of(p, i)]


def value(i, mode, p):
    drawing = Drawing(p)
    if drawing.refused:
        return drawing.refused
    if not makes(p, i, NUMBER) or mode > MOST_MODE:
        return [-6]
    return [0, 1, bits_of(drawing.tower, drawing.things[i], mode)]


def level(i, j, p):
    drawing = Drawing(p)
    if drawing.refused:
        return drawing.refused
    if makes(p, i, NUMBER) and makes(p, j, NUMBER):
        return [1 + number_sign(drawing.tower, drawing.things[i], drawing.things[j])]
    if makes(p, i, POINT) and makes(p, j, POINT):
        return [1 if are_one(drawing.tower, drawing.things[i], drawing.things[j]) else 0]
    return [-6]


def side(i, j, p):
    drawing = Drawing(p)
    if drawing.refused:
        return drawing.refused
    if makes(p, i, LINE) and makes(p, j, POINT):
        return [1 + left_sign(drawing.tower, drawing.things[i], drawing.things[j])]
    if makes(p, i, CIRCLE) and makes(p, j, POINT):
        return [1 + within_sign(drawing.tower, drawing.things[i], drawing.things[j])]
    return [-6]


def along(i, j, k, p):
    drawing = Drawing(p)
    if drawing.refused:
        return drawing.refused
    if not makes(p, i, LINE) or not makes(p, j, POINT) or not makes(p, k, POINT):
        return [-6]
    return [1 + along_sign(drawing.tower, drawing.things[i], drawing.things[j], drawing.things[k])]


def turn(i, m, p):
    drawing = Drawing(p)
    if drawing.refused:
        return drawing.refused
    if not makes(p, i, LINE) or not LEAST_HALVINGS <= m <= MOST_HALVINGS:
        return [-6]
    return [0, 1, pieces_of_turn(drawing.tower, drawing.things[i], m)]


def meets(i, j, p):
    drawing = Drawing(p)
    if drawing.refused:
        return drawing.refused
    if makes(p, i, LINE) and makes(p, j, LINE):
        return [lines_common(drawing.tower, drawing.things[i], drawing.things[j])]
    if makes(p, i, LINE) and makes(p, j, CIRCLE):
        return [chord_common(drawing.tower, drawing.things[i], drawing.things[j])]
    if makes(p, i, CIRCLE) and makes(p, j, LINE):
        return [chord_common(drawing.tower, drawing.things[j], drawing.things[i])]
    if makes(p, i, CIRCLE) and makes(p, j, CIRCLE):
        return [circles_common(drawing.tower, drawing.things[i], drawing.things[j])]
    return [-6]


def hull(p, s):
    drawing = Drawing(p)
    if drawing.refused:
        return drawing.refused
    if not places_right(p, s, 1):
        return [-6]
    corners = hull_corners(drawing.tower, [drawing.things[place] for place in s])
    return [len(corners), len(corners)] + corners


def field(mode, p, s):
    drawing = Drawing(p)
    if drawing.refused:
        return drawing.refused
    if not places_right(p, s, 3) or mode > MOST_MODE:
        return [-6]
    number = twice_field(drawing.tower, [drawing.things[place] for place in s])
    return [0, 1, bits_of(drawing.tower, number, mode)]
