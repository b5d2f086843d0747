"""What the tests share: calls in plain words, their answers apart, and a slow second program.

The second program steps through time by ones and works out each channel anew from all that it was
ever told, with Python's fractions.
"""

import random
from fractions import Fraction

from stagefades.cues import answers


def cue(number, up=0, down=0, delay=0, follow=0, moves=()):
    return [0, number, up, down, delay, follow, len(moves)] + list(moves)


def go(time):
    return [1, time]


def goto(number, time):
    return [2, number, time]


def at(time, channel):
    return [3, time, channel]


def ask(*calls):
    """A list of answers, one a call, each a list of numbers."""
    numbers = answers([number for call in calls for number in call])
    apart = []
    place = 0
    while place < len(numbers):
        apart.append(numbers[place + 1:place + 1 + numbers[place]])
        place += 1 + numbers[place]
    assert place == len(numbers)
    assert len(apart) == len(calls)
    return apart


def ask_last(*calls):
    return ask(*calls)[-1]


def levels(calls, time, channels):
    """Where each of the channels is at the time behind the calls."""
    found = ask(*calls, *[at(time, channel) for channel in channels])[len(calls):]
    return [Fraction(upper, lower) for upper, lower in found]


class SlowStage:
    def __init__(self):
        self.cues = []
        self.told = []
        self.gone = -1
        self.time = 0
        self.due = None

    def answer(self, call):
        return [self.cue, self.go, self.goto, self.at][call[0]](*call[1:])

    def cue(self, number, up, down, delay, follow, count, *moves):
        channels, wanted = moves[0::2], moves[1::2]
        right = (
            number in range(1, 10000)
            and all(number > other["number"] for other in self.cues)
            and all(time in range(601) for time in (up, down, delay, follow))
            and len(channels) == len(wanted)
            and list(channels) == sorted(set(channels))
            and all(channel in range(1, 65) for channel in channels)
            and all(level in range(101) for level in wanted)
        )
        if not right:
            return [-1]
        if len(self.cues) >= 24:
            return [-5]
        self.cues.append({
            "number": number, "up": up, "down": down, "delay": delay, "follow": follow,
            "moves": dict(zip(channels, wanted)),
        })
        return [len(self.cues)]

    def look(self, place):
        look = {channel: 0 for channel in range(1, 65)}
        for each in self.cues[:place + 1]:
            look.update(each["moves"])
        return look

    def due_behind(self, place, time):
        if self.cues[place]["follow"] and place + 1 < len(self.cues):
            return time + self.cues[place]["follow"]
        return None

    def until(self, time):
        """All told, and the place of the last cue gone, when it is that time."""
        told, gone, due = list(self.told), self.gone, self.due
        for now in range(self.time, time + 1):
            if due == now:
                gone += 1
                told.append((now, self.cues[gone], self.cues[gone]["moves"]))
                due = self.due_behind(gone, now)
        return told, gone

    def wrong_time(self, time):
        return time < self.time or time > 1000000

    def set_off(self, place, time, told, wanted):
        self.told = told + [(time, self.cues[place], wanted)]
        self.gone = place
        self.time = time
        self.due = self.due_behind(place, time)
        return [self.cues[place]["number"]]

    def go(self, time):
        if self.wrong_time(time):
            return [-1]
        told, gone = self.until(time)
        if gone + 1 == len(self.cues):
            return [-3]
        return self.set_off(gone + 1, time, told, self.cues[gone + 1]["moves"])

    def goto(self, number, time):
        if self.wrong_time(time):
            return [-1]
        places = [place for place, each in enumerate(self.cues) if each["number"] == number]
        if not places:
            return [-4]
        return self.set_off(places[0], time, self.until(time)[0], self.look(places[0]))

    def at(self, time, channel):
        if self.wrong_time(time) or channel not in range(1, 65):
            return [-1]
        mine = [entry for entry in self.until(time)[0] if channel in entry[2]]
        where, level, begin, length = Fraction(0), 0, 0, 0
        for index, (now, each, wanted) in enumerate(mine):
            start = now + each["delay"]
            if start > time or any(later[0] < start for later in mine[index + 1:]):
                continue
            where = part_way(where, level, start - begin, length)
            level, begin = wanted[channel], start
            length = each["up"] if level > where else each["down"]
        where = part_way(where, level, time - begin, length)
        return [where.numerator, where.denominator]


def part_way(where, level, passed, length):
    return Fraction(level) if passed >= length else where + (level - where) * Fraction(passed, length)


def ask_slowly(*calls):
    stage = SlowStage()
    return [stage.answer(call) for call in calls]


class Chance:
    """Calls by chance, the same for the same seed."""

    def __init__(self, seed):
        self.random = random.Random(seed)
        self.time = 0
        self.number = 0

    def length(self):
        return self.random.choice([0, 0, 1, 2, 3, 5, 7, 12, 30])

    def cue(self):
        self.number += self.random.randint(1, 3)
        channels = sorted(self.random.sample(range(1, 6), self.random.randint(0, 5)))
        moves = [number for channel in channels for number in (channel, self.random.randint(0, 100))]
        return cue(self.number, self.length(), self.length(), self.length(), self.length(), moves)

    def pass_time(self):
        if self.random.randrange(12) == 0:
            return max(0, self.time - self.random.randint(0, 4))
        self.time += self.random.choice([0, 0, 1, 2, 3, 4, 8, 20])
        return self.time

    def call(self):
        kind = self.random.randrange(8)
        if kind == 0:
            return self.cue()
        if kind in (1, 2):
            return go(self.pass_time())
        if kind == 3:
            return goto(self.random.randint(1, self.number + 1), self.pass_time())
        return at(max(0, self.time + self.random.randint(-1, 25)), self.random.randint(1, 6))

    def calls(self, count):
        first = [self.cue() for turn in range(self.random.randint(1, 9))]
        return first + [self.call() for turn in range(count)]
