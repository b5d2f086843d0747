"""What the tests share: calls in plain words, their answers apart, and a slow second program.

The second program works out each channel anew from all that it was ever told, with Python's
fractions; when all is still, and when a channel comes to a level, it finds by steps through time.
"""

import random
from fractions import Fraction

from stagefades.cues import answers


def cue(number, up=0, down=0, delay=0, follow=0, moves=()):
    return [0, number, up, down, delay, follow, len(moves)] + list(moves)


def go(time):
    return [1, time]


def goto(number, time):
    return [2, number, time]


def at(time, channel):
    return [3, time, channel]


def stand(time):
    return [4, time]


def still():
    return [5]


def when(time, channel, level):
    return [6, time, channel, level]


def reset():
    return [7]


def ask(*calls):
    """A list of answers, one a call, each a list of numbers."""
    numbers = answers([number for call in calls for number in call])
    apart = []
    place = 0
    while place < len(numbers):
        apart.append(numbers[place + 1:place + 1 + numbers[place]])
        place += 1 + numbers[place]
    assert place == len(numbers)
    assert len(apart) == len(calls)
    return apart


def ask_last(*calls):
    return ask(*calls)[-1]


def levels(calls, time, channels):
    """Where each of the channels is at the time behind the calls."""
    found = ask(*calls, *[at(time, channel) for channel in channels])[len(calls):]
    return [Fraction(upper, lower) for upper, lower in found]


class SlowStage:
    def __init__(self):
        self.cues = []
        self.reset()

    def answer(self, call):
        kinds = [self.cue, self.go, self.goto, self.at, self.stand, self.still, self.when, self.reset]
        return kinds[call[0]](*call[1:])

    def cue(self, number, up, down, delay, follow, count, *moves):
        channels, wanted = moves[0::2], moves[1::2]
        right = (
            number in range(1, 10000)
            and all(number > other["number"] for other in self.cues)
            and all(time in range(601) for time in (up, down, delay, follow))
            and len(channels) == len(wanted)
            and list(channels) == sorted(set(channels))
            and all(channel in range(1, 65) for channel in channels)
            and all(level in range(101) for level in wanted)
        )
        if not right:
            return [-1]
        if len(self.cues) >= 24:
            return [-5]
        self.cues.append({
            "number": number, "up": up, "down": down, "delay": delay, "follow": follow,
            "moves": dict(zip(channels, wanted)),
        })
        return [len(self.cues)]

    def look(self, place):
        look = {channel: 0 for channel in range(1, 65)}
        for each in self.cues[:place + 1]:
            look.update(each["moves"])
        return look

    def due_behind(self, place, time):
        if self.cues[place]["follow"] and place + 1 < len(self.cues):
            return time + self.cues[place]["follow"]
        return None

    def until(self, time):
        """All told, the place of the last cue gone, and when the next one follows, when it is that time."""
        told, gone, due = list(self.told), self.gone, self.due
        while due is not None and due <= time:
            gone += 1
            told.append((due, self.cues[gone], self.cues[gone]["moves"]))
            due = self.due_behind(gone, due)
        return told, gone, due

    def for_ever(self):
        """All told if nobody does anything, and a time when all that has long come to its end."""
        told, gone, due = self.until(10 ** 9)
        ends = [now + each["delay"] + max(each["up"], each["down"]) for now, each, wanted in told]
        return told, max([self.time, *ends])

    def wrong_time(self, time):
        return time < self.time or time > 1000000

    def set_off(self, place, time, told, wanted):
        self.told = told + [(time, self.cues[place], wanted)]
        self.gone = place
        self.time = time
        self.due = self.due_behind(place, time)
        return [self.cues[place]["number"]]

    def go(self, time):
        if self.wrong_time(time):
            return [-1]
        told, gone, due = self.until(time)
        if gone + 1 == len(self.cues):
            return [-3]
        return self.set_off(gone + 1, time, told, self.cues[gone + 1]["moves"])

    def goto(self, number, time):
        if self.wrong_time(time):
            return [-1]
        places = [place for place, each in enumerate(self.cues) if each["number"] == number]
        if not places:
            return [-4]
        return self.set_off(places[0], time, self.until(time)[0], self.look(places[0]))

    def at(self, time, channel):
        if self.wrong_time(time) or channel not in range(1, 65):
            return [-1]
        where = where_at(fades(self.until(time)[0], channel), time)
        return [where.numerator, where.denominator]

    def stand(self, time):
        if self.wrong_time(time):
            return [-1]
        told, gone, due = self.until(time)
        return [0 if gone < 0 else self.cues[gone]["number"]] + ([0] if due is None else [1, due])

    def still(self):
        told, time = self.for_ever()
        moving = [fades(told, channel) for channel in sorted({channel for entry in told for channel in entry[2]})]
        while time > self.time:
            # All breaks are at whole times: what's the same at both and half-way is the same between.
            rows = [[where_at(each, time - back) for each in moving] for back in (0, Fraction(1, 2), 1)]
            if any(entry[0] == time for entry in told) or rows[0] != rows[1] or rows[1] != rows[2]:
                return [time]
            time -= 1
        return [time]

    def when(self, time, channel, level):
        if self.wrong_time(time) or channel not in range(1, 65) or level not in range(101):
            return [-1]
        told, end = self.for_ever()
        way = fades(told, channel)
        start = where_at(way, time)
        for now in range(time, max(time, end) + 1):
            where = where_at(way, now)
            if where == level or (where > level) != (start > level):
                return [now]
        return [-3]

    def reset(self):
        self.told = []
        self.gone = -1
        self.time = 0
        self.due = None
        return [0]


def fades(told, channel):
    """The fades of the channel that begin: when each begins, from where, to what level, how long it takes."""
    mine = [entry for entry in told if channel in entry[2]]
    way = [(0, Fraction(0), 0, 0)]
    for index, (now, each, wanted) in enumerate(mine):
        begin = now + each["delay"]
        if not any(later[0] < begin for later in mine[index + 1:]):
            start = where_at(way, begin)
            way.append((begin, start, wanted[channel], each["up"] if wanted[channel] > start else each["down"]))
    return way


def where_at(way, time):
    begin, start, level, length = [each for each in way if each[0] <= time][-1]
    return part_way(start, level, time - begin, length)


def part_way(where, level, passed, length):
    return Fraction(level) if passed >= length else where + (level - where) * Fraction(passed, length)


def ask_slowly(*calls):
    stage = SlowStage()
    return [stage.answer(call) for call in calls]


class Chance:
    """Calls by chance, the same for the same seed."""

    def __init__(self, seed):
        self.random = random.Random(seed)
        self.time = 0
        self.number = 0

    def length(self):
        return self.random.choice([0, 0, 1, 2, 3, 5, 7, 12, 30])

    def cue(self):
        self.number += self.random.randint(1, 3)
        channels = sorted(self.random.sample(range(1, 6), self.random.randint(0, 5)))
        moves = [number for channel in channels for number in (channel, self.level())]
        return cue(self.number, self.length(), self.length(), self.length(), self.length(), moves)

    def level(self):
        # Levels that come again show what happens if a channel is there already.
        return self.random.choice([0, 50, 100, self.random.randint(0, 100)])

    def pass_time(self):
        if self.random.randrange(12) == 0:
            return max(0, self.time - self.random.randint(0, 4))
        self.time += self.random.choice([0, 0, 1, 2, 3, 4, 8, 20])
        return self.time

    def told(self):
        """A call that tells something, if it isn't refused."""
        kind = self.random.randrange(33)
        if kind == 0:
            self.time = 0
            return reset()
        if kind < 8:
            return self.cue()
        if kind < 25:
            return go(self.pass_time())
        return goto(self.random.randint(1, self.number + 1), self.pass_time())

    def asked(self):
        """A call that only asks."""
        kind = self.random.randrange(6)
        time = max(0, self.time + self.random.randint(-3, 25))
        if kind == 0:
            return stand(time)
        if kind == 1:
            return still()
        if kind == 2:
            return when(time, self.random.randint(1, 6), self.level())
        return at(time, self.random.randint(1, 6))

    def call(self):
        return self.told() if self.random.randrange(2) else self.asked()

    def calls(self, count):
        first = [self.cue() for turn in range(self.random.randint(1, 9))]
        return first + [self.call() for turn in range(count)]
