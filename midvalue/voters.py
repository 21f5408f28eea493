"""The voter: takes one value a step out of several sensors, and leaves out those that lie."""

from midvalue.errors import BadSettings, BadStep, NoSensor
from midvalue.values import agree, is_whole, is_within, middle, moved

# The least and the greatest of many, threshold, rate, misses, backs.
BOUNDS = ((3, 9), (0, 1000000), (1, 1000000), (1, 1000), (1, 1000))

# How far from 0 a sensor's number may lie.
FARTHEST = 1000000000


def are_settings(settings):
    if not isinstance(settings, tuple) or len(settings) != len(BOUNDS):
        return False
    for setting, bounds in zip(settings, BOUNDS):
        if not is_whole(setting) or setting < bounds[0] or setting > bounds[1]:
            return False
    return True


def can_be_said(thing):
    return thing is None or (is_whole(thing) and abs(thing) <= FARTHEST)


def is_step(values, many):
    return isinstance(values, list) and len(values) == many and all([can_be_said(thing) for thing in values])


def word_of(numbers, value, threshold, many):
    near = len(agree(numbers, value, threshold))
    if len(numbers) == 0:
        return "lost"
    if len(numbers) == 1:
        return "single"
    if near * 2 <= len(numbers):
        return "split"
    if near == many:
        return "all"
    return "most"


class Voter:
    def __init__(self, settings, start):
        if not are_settings(settings):
            raise BadSettings("settings are (many, threshold, rate, misses, backs), each within its bounds")
        if not is_whole(start):
            raise BadSettings("a start is a whole number")
        self.many = settings[0]
        self.threshold = settings[1]
        self.rate = settings[2]
        self.misses = settings[3]
        self.backs = settings[4]
        self.last = start
        self.left_out = [False] * self.many
        self.counts = [0] * self.many

    def step(self, values):
        if not is_step(values, self.many):
            raise BadStep("a step is a list of a number or None for each sensor, each number within its bounds")
        numbers = self.numbers_there(values)
        value = middle(numbers, self.last)
        for place in range(self.many):
            is_near = values[place] is not None and is_within(values[place], value, self.threshold)
            if not self.left_out[place]:
                self.judge(place, is_near)
            else:
                # With none there the value is but the old one, and proves nobody right.
                self.try_back(place, is_near and len(numbers) > 0)
        self.last = moved(self.last, value, self.rate)
        return (self.last, word_of(numbers, value, self.threshold, self.many))

    def numbers_there(self, values):
        return [thing for thing, is_out in zip(values, self.left_out) if thing is not None and not is_out]

    def judge(self, place, agrees):
        if agrees:
            self.counts[place] = max(self.counts[place] - 1, 0)
            return
        self.counts[place] = self.counts[place] + 1
        # The last one stays in however often it misses, so its count may pass misses.
        if self.counts[place] >= self.misses and self.is_another_in(place):
            self.left_out[place] = True
            self.counts[place] = 0

    def is_another_in(self, place):
        return any([other != place and not is_out for other, is_out in enumerate(self.left_out)])

    def try_back(self, place, agrees):
        if not agrees:
            self.counts[place] = 0
            return
        self.counts[place] = self.counts[place] + 1
        if self.counts[place] == self.backs:
            self.left_out[place] = False
            self.counts[place] = 0

    def given(self):
        return self.last

    def state(self, place):
        self.ask_for(place)
        if self.left_out[place]:
            return "out"
        if self.counts[place] > 0:
            return "suspect"
        return "good"

    def count(self, place):
        self.ask_for(place)
        return self.counts[place]

    def ask_for(self, place):
        if place < 0 or place >= self.many:
            raise NoSensor(f"no sensor has the place {place}")
