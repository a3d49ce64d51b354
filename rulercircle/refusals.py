"""Why a step can't be: for each number that says so, an error of its own."""


class DividedByZero(ValueError):
    """-2"""


class BelowZero(ValueError):
    """-3: the root, or the radius's square, of a number below 0."""


class Undetermined(ValueError):
    """-4: a line through one point twice, lines of one direction, circles about one centre."""


class Apart(ValueError):
    """-5: figures that don't meet."""
