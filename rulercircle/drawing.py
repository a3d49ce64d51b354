"""A drawing: the things that its steps make, or why it's refused."""

from rulercircle.making import MAKERS
from rulercircle.refusals import Apart, BelowZero, DividedByZero, Undetermined
from rulercircle.steps import MOST_STEPS, a_of, b_of, count_steps, first_wrong, op_of, v_of
from rulercircle.tower import Tower


class Drawing:
    """The things by their steps; refused is the whole answer to a drawing that's refused, else empty."""

    def __init__(self, p):
        self.tower = Tower()
        self.things = []
        self.refused = self.drawn(p)

    def drawn(self, p):
        if not 1 <= count_steps(p) <= MOST_STEPS:
            return [-7]
        wrong = first_wrong(p)
        if wrong is not None:
            return [-1, 1, wrong]
        for step in range(count_steps(p)):
            why = self.put(p, step)
            if why != 0:
                return [why, 1, step]
        return []

    def put(self, p, step):
        """Makes a step's thing, and tells 0; or tells why it can't be."""
        try:
            self.things.append(self.made(p, step))
        except DividedByZero:
            return -2
        except BelowZero:
            return -3
        except Undetermined:
            return -4
        except Apart:
            return -5
        return 0

    def made(self, p, step):
        a = self.used(a_of(p, step))
        b = self.used(b_of(p, step))
        return MAKERS[op_of(p, step)](self.tower, a, b, v_of(p, step))

    def used(self, step):
        # A field that isn't used is 0, and there may be no step 0 yet.
        return self.things[step] if step < len(self.things) else None
