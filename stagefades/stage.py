"""The stage: its cues, what was told last, and what follows by itself.

The calls give back the list of what they answer. A place is a cue's place among the cues, from 1
on; 0 is the place ahead of the first.
"""

from stagefades.cuesheet import CHANNELS, TOP_LEVEL, can_be_cue, cue_behind, dark_look
from stagefades.fades import channel_at_rest
from stagefades.paths import Path

MOST_CUES = 24
LAST_TIME = 1000000


class Stage:
    """It keeps what was told, up to the last go by a call; what follows is told anew each time.

    So a call that only asks changes nothing, and a cue added later can still follow.
    """

    def __init__(self):
        self.cues = []
        self.reset()

    def add_cue(self, number, times, moves):
        """The call cue; times are up, down, delay and follow."""
        last_number = 0
        look = dark_look()
        if self.cues:
            last_number = self.cues[-1].number
            look = self.cues[-1].look
        if not can_be_cue(last_number, number, times, moves):
            return [-1]
        if len(self.cues) == MOST_CUES:
            return [-5]
        self.cues.append(cue_behind(look, number, times, moves))
        return [len(self.cues)]

    def go(self, time):
        """The call go."""
        if not self.can_be_time(time):
            return [-1]
        place = self.place_at(time) + 1
        if place > len(self.cues):
            return [-3]
        cue = self.cues[place - 1]
        self.let_go(place, time, cue.moves)
        return [cue.number]

    def goto(self, number, time):
        """The call goto."""
        if not self.can_be_time(time):
            return [-1]
        place = self.place_of(number)
        if place == 0:
            return [-4]
        self.let_go(place, time, self.cues[place - 1].look)
        return [number]

    def at(self, time, channel):
        """The call at."""
        if not self.can_be_time(time) or not self.is_channel(channel):
            return [-1]
        return list(self.path_of(channel).where(time))

    def stand(self, time):
        """The call stand."""
        if not self.can_be_time(time):
            return [-1]
        place = self.place_at(time)
        number = self.cues[place - 1].number if place > 0 else 0
        for begin, follower in self.all_that_follow():
            if begin > time:
                return [number, 1, begin]
        return [number, 0]

    def still(self):
        """The call still."""
        time = self.last_time
        for begin, place in self.all_that_follow():
            time = begin
        for channel in self.channels:
            time = self.path_of(channel).last_change(time)
        return [time]

    def when(self, time, channel, level):
        """The call when."""
        if not self.can_be_time(time) or not self.is_channel(channel) or level > TOP_LEVEL:
            return [-1]
        found = self.path_of(channel).first_beyond(time, level)
        return [-3] if found is None else [found]

    def reset(self):
        """The call reset; a new stage begins with it, too."""
        self.channels = {}
        for channel in range(1, CHANNELS + 1):
            self.channels[channel] = channel_at_rest()
        self.last_place = 0
        self.last_time = 0
        self.leads_on = False
        return [0]

    def can_be_time(self, time):
        """Whether a call may tell this time."""
        return self.last_time <= time <= LAST_TIME

    def is_channel(self, channel):
        """Whether there's such a channel."""
        return 1 <= channel <= CHANNELS

    def place_of(self, number):
        """The place of the cue with this number; 0, if there's none."""
        for place, cue in enumerate(self.cues, start=1):
            if cue.number == number:
                return place
        return 0

    def place_at(self, time):
        """The place of the cue that has gone last at this time."""
        followed = self.followed_by(time)
        return followed[-1][1] if followed else self.last_place

    def followed_by(self, time):
        """The cues that have followed at this time: when each goes, and its place."""
        return [entry for entry in self.all_that_follow() if entry[0] <= time]

    def all_that_follow(self):
        """The cues that follow if nobody does anything: when each goes, and its place."""
        entries = []
        place = self.last_place
        time = self.last_time
        leads_on = self.leads_on
        while leads_on:
            time += self.cues[place - 1].follow
            place += 1
            entries.append((time, place))
            leads_on = self.is_followed(place)
        return entries

    def path_of(self, channel):
        """What the channel goes through from the last go by a call on, if nobody does anything."""
        moved = self.channels[channel]
        fades = [moved.fade_at(self.last_time)]
        for begin, place in self.all_that_follow():
            cue = self.cues[place - 1]
            if channel in cue.moves:
                moved = moved.told(begin, cue.order_at(begin, cue.moves[channel]))
                fades.append(moved.fade)
        fades.append(moved.last_fade())
        return Path(fades)

    def is_followed(self, place):
        """Whether the cue of this place has a follow, and now a cue behind it."""
        return self.cues[place - 1].follow != 0 and place < len(self.cues)

    def let_go(self, place, time, levels):
        """The cue goes by a call, and tells these levels; what has followed until then is kept."""
        for begin, follower in self.followed_by(time):
            self.tell(self.cues[follower - 1], begin, self.cues[follower - 1].moves)
        self.tell(self.cues[place - 1], time, levels)
        self.last_place = place
        self.last_time = time
        # A cue that goes by a call isn't followed by one that is added behind it later.
        self.leads_on = self.is_followed(place)

    def tell(self, cue, time, levels):
        """The cue tells each of these channels its level."""
        for channel, level in levels.items():
            self.channels[channel] = self.channels[channel].told(time, cue.order_at(time, level))
