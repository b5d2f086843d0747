"""What a cue is, and which numbers make one."""

from stagefades.fades import Order

CHANNELS = 64
TOP_LEVEL = 100
TOP_NUMBER = 9999
LONGEST = 600


class Cue:
    """A cue as it was added: moves and look tell a level by channel, the look one for each."""

    def __init__(self, number, times, moves, look):
        self.number = number
        self.up = times[0]
        self.down = times[1]
        self.delay = times[2]
        self.follow = times[3]
        self.moves = moves
        self.look = look

    def order_at(self, time, level):
        """What a channel is told when the cue goes at a time."""
        return Order(time + self.delay, level, self.up, self.down)


def dark_look():
    """The look ahead of the first cue: all channels at 0."""
    look = {}
    for channel in range(1, CHANNELS + 1):
        look[channel] = 0
    return look


def cue_behind(look, number, times, moves):
    """The cue of these numbers behind one of that look."""
    levels = {}
    for place in range(0, len(moves), 2):
        levels[moves[place]] = moves[place + 1]
    whole_look = dict(look)
    whole_look.update(levels)
    return Cue(number, times, levels, whole_look)


def can_be_cue(last_number, number, times, moves):
    """Whether these numbers make a cue behind that one's number (0, if it's the first)."""
    if number <= last_number or number > TOP_NUMBER:
        return False
    return max(times) <= LONGEST and can_be_moves(moves)


def can_be_moves(moves):
    """Whether the list has channels, rising, each with a level."""
    if len(moves) % 2 == 1:
        return False
    before = 0
    for place in range(0, len(moves), 2):
        channel = moves[place]
        if channel <= before or channel > CHANNELS or moves[place + 1] > TOP_LEVEL:
            return False
        before = channel
    return True
