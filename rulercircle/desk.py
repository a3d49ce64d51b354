"""The calls: what is asked of a drawing, and the lists of whole numbers that answer it."""

from rulercircle.doubles import MOST_MODE, bits_of
from rulercircle.drawing import Drawing
from rulercircle.steps import NUMBER, count_steps, kind_of


def kind(i, p):
    drawing = Drawing(p)
    if drawing.refused:
        return drawing.refused
    if i >= count_steps(p):
        return [-6]
    return [kind_of(p, i)]


def value(i, mode, p):
    drawing = Drawing(p)
    if drawing.refused:
        return drawing.refused
    if i >= count_steps(p) or kind_of(p, i) != NUMBER or mode > MOST_MODE:
        return [-6]
    return [0, 1, bits_of(drawing.tower, drawing.things[i], mode)]
