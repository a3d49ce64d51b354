"""The steps of a drawing as they are told: their fields, their weights, which are told wrong."""

MOST_STEPS = 32
MOST_ROOTS = 3
MOST_WEIGHT = 8192
MOST_SIZE = 9999
MOST_PLACES = 16
MOST_TOGETHER = 16384

NUMBER = 0
POINT = 1
LINE = 2
CIRCLE = 3

# By op, from 0 on: the kind it makes (0 number, 1 point, 2 line, 3 circle), the kinds of a and b
# (None: not used), and how it weighs: so many times a and b, and so much more.
ROWS = (
    (0, None, None, 0, 14),
    (0, 0, 0, 1, 1),
    (0, 0, 0, 1, 1),
    (0, 0, 0, 1, 0),
    (0, 0, 0, 1, 0),
    (0, 0, None, 1, 0),
    (1, 0, 0, 1, 0),
    (0, 1, None, 1, 0),
    (0, 1, None, 1, 0),
    (2, 1, 1, 1, 0),
    (3, 1, 1, 1, 0),
    (3, 1, 0, 1, 0),
    (1, 2, 2, 4, 0),
    (1, 2, 3, 8, 0),
    (1, 3, 3, 8, 0),
    (1, 1, 1, 1, 0),
    (1, 1, 2, 8, 0),
    (0, 1, 1, 2, 0),
)


def count_steps(p):
    return len(p) // 4


def op_of(p, step):
    return p[4 * step]


def a_of(p, step):
    return p[4 * step + 1]


def b_of(p, step):
    return p[4 * step + 2]


def v_of(p, step):
    return p[4 * step + 3]


def kind_of(p, step):
    return ROWS[op_of(p, step)][0]


def makes(p, step, wanted):
    """Whether it's a step, and makes a thing of the kind wanted."""
    return step < count_steps(p) and kind_of(p, step) == wanted


def field_right(p, step, field, wanted):
    """Whether a or b of a step is told right, where a thing of the kind wanted is used (None: nothing)."""
    if wanted is None:
        return field == 0
    return 0 <= field < step and kind_of(p, field) == wanted


def v_right(op, v):
    if op == 0:
        return -MOST_SIZE <= v <= MOST_SIZE
    if op in (13, 14):
        return v in (0, 1)
    return v == 0


def fields_right(p, step):
    """Whether op, a, b and v of a step are told right, if all steps before it are."""
    op = op_of(p, step)
    if not 0 <= op < len(ROWS):
        return False
    if not field_right(p, step, a_of(p, step), ROWS[op][1]):
        return False
    return field_right(p, step, b_of(p, step), ROWS[op][2]) and v_right(op, v_of(p, step))


def weight_of(p, step, weights):
    row = ROWS[op_of(p, step)]
    both = 0
    if row[1] is not None:
        both += weights[a_of(p, step)]
    if row[2] is not None:
        both += weights[b_of(p, step)]
    return row[3] * both + row[4]


def first_wrong(p):
    """The first step that's told wrong, or None."""
    weights = []
    roots = 0
    for step in range(count_steps(p)):
        if not fields_right(p, step):
            return step
        if op_of(p, step) in (5, 13, 14):
            roots += 1
        weights.append(weight_of(p, step, weights))
        if roots > MOST_ROOTS or weights[step] > MOST_WEIGHT:
            return step
    return None


def weights_of(p):
    """The weights of all steps, if none is told wrong."""
    weights = []
    for step in range(count_steps(p)):
        weights.append(weight_of(p, step, weights))
    return weights


def places_right(p, s, least):
    """Whether s has places of points, not fewer than the least nor too many, and not too heavy together."""
    if not least <= len(s) <= MOST_PLACES or not all([makes(p, place, POINT) for place in s]):
        return False
    weights = weights_of(p)
    return sum([weights[place] for place in s]) <= MOST_TOGETHER
