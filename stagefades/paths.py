"""What a channel goes through as time passes, if nobody does anything."""

from stagefades.quotients import side_of


class Path:
    """Fades in the order in which they begin; each goes on until the next one begins.

    Of fades that begin at one moment, the last one alone takes time.
    """

    def __init__(self, fades):
        self.fades = fades

    def is_left(self, place, time):
        """Whether at this time a fade behind the one of this place has begun."""
        return place + 1 < len(self.fades) and self.fades[place + 1].begin <= time

    def where(self, time):
        """The quotient at a time, not before the first fade begins."""
        place = 0
        while self.is_left(place, time):
            place += 1
        return self.fades[place].where(time)

    def first_beyond(self, time, level):
        """The first whole time, from that one on, when the channel has come to the level; None, if it never does."""
        side = side_of(self.where(time), level)
        if side == 0:
            return time
        for place, fade in enumerate(self.fades):
            found = fade.first_off(side, max(time, fade.begin), level)
            if found is not None and not self.is_left(place, found):
                return found
        return None

    def last_change(self, time):
        """The last moment behind that time at which the channel changes; that time, if there's none.

        No cue may go behind that time: so no jump there is undone at the same moment by a second one.
        """
        for place, fade in enumerate(self.fades):
            if fade.is_changing():
                end = fade.begin + fade.length
                time = max(time, self.fades[place + 1].begin if self.is_left(place, end) else end)
        return time
