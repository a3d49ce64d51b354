"""How far round a direction points, in halves, quarters, eighths.. of a turn."""

from rulercircle.tower import minus, plus, scaled

LEAST_HALVINGS = 1
MOST_HALVINGS = 5


class Way:
    """A direction that's turned back, piece by piece, to that of rising x; `pieces` is how many of the last size."""

    def __init__(self, tower, ahead, rise):
        self.tower = tower
        self.ahead = ahead
        self.rise = rise
        self.pieces = 0

    def note(self, far):
        self.pieces = 2 * self.pieces + (1 if far else 0)

    def take_half(self):
        """Then it's less than half a turn."""
        sign = self.tower.sign(self.rise)
        far = sign < 0 or (sign == 0 and self.tower.sign(self.ahead) < 0)
        if far:
            self.ahead = scaled(self.ahead, -1)
            self.rise = scaled(self.rise, -1)
        self.note(far)

    def take_quarter(self):
        """Of less than half a turn; then it's less than a quarter."""
        far = self.tower.sign(self.ahead) <= 0
        if far:
            ahead = self.ahead
            self.ahead = self.rise
            self.rise = scaled(ahead, -1)
        self.note(far)

    def take_eighth(self):
        """Of less than a quarter; then it's less than an eighth."""
        steep = minus(self.rise, self.ahead)
        far = self.tower.sign(steep) >= 0
        if far:
            self.ahead = plus(self.ahead, self.rise)
            self.rise = steep
        self.note(far)

    def go_twice_as_far(self):
        """The direction squared, as a complex number, lies twice as far round."""
        square = minus(self.tower.squared(self.ahead), self.tower.squared(self.rise))
        self.rise = scaled(self.tower.times(self.ahead, self.rise), 2)
        self.ahead = square


def pieces_of_turn(tower, line, halvings):
    """How many whole pieces, if a turn is halved so often, the line's direction lies from that of rising x."""
    way = Way(tower, line.ahead, line.rise)
    way.take_half()
    if halvings > 1:
        way.take_quarter()
    if halvings > 2:
        way.take_eighth()
    # A smaller piece is an eighth of what's left, gone twice as far for each halving behind the third.
    for halving in range(3, halvings):
        way.go_twice_as_far()
        way.take_eighth()
    return way.pieces
