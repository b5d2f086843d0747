"""One channel in time: the fade that it is in, and the order that waits for it.

None of these objects changes once it is made: so what would be, if nobody did anything, can be
looked at without a change to what is.
"""

from stagefades.quotients import between, side_of


class Fade:
    """A way from a quotient to a level, evenly, and the rest at that level behind it."""

    def __init__(self, begin, start, level, length):
        self.begin = begin
        self.start = start
        self.level = level
        self.length = length

    def where(self, time):
        """The quotient at a time, not before the begin."""
        passed = time - self.begin
        if passed >= self.length:
            return (self.level, 1)
        return between(self.start, self.level, passed, self.length)

    def is_changing(self):
        """Whether it doesn't begin at its level."""
        return self.start != (self.level, 1)

    def first_off(self, side, time, level):
        """The first whole time, from that one on, when it isn't on this side of the level; None, if there's none."""
        if side_of(self.where(time), level) != side:
            return time
        if side_of((self.level, 1), level) == side:
            return None
        upper, lower = self.start
        # It's there when passed by length is (level - start) by (its own level - start), rounded up.
        passed = -(-self.length * (level * lower - upper) // (self.level * lower - upper))
        return self.begin + passed


class Order:
    """What a channel is told: to go to a level, from a time on, in one of two lengths."""

    def __init__(self, begin, level, up, down):
        self.begin = begin
        self.level = level
        self.up = up
        self.down = down

    def fade_from(self, start):
        """The fade that begins with this order where the channel is then."""
        length = self.up if side_of(start, self.level) < 0 else self.down
        return Fade(self.begin, start, self.level, length)


class Channel:
    """A fade, and the last order (None, if there was none), which begins later or has begun."""

    def __init__(self, fade, order):
        self.fade = fade
        self.order = order

    def fade_at(self, time):
        """The fade that the channel is in at a time, not before it was told last."""
        if self.order is None or self.order.begin > time:
            return self.fade
        return self.order.fade_from(self.fade.where(self.order.begin))

    def last_fade(self):
        """The fade that it's in for good, if it's told nothing more."""
        return self.fade if self.order is None else self.fade_at(self.order.begin)

    def told(self, time, order):
        """The channel when it's told an order at a time; an order that still waits is lost."""
        return Channel(self.fade_at(time), order)


def channel_at_rest():
    """A channel that stays at 0 and was told nothing."""
    return Channel(Fade(0, (0, 1), 0, 0), None)
