"""What several test files need."""

import random
import statistics

from midvalue.voters import Voter

# How many seeded runs a test takes, and how many steps each has.
RUNS = 150
STEPS = 120

# The least and the greatest of each setting, and how far from 0 a sensor's number may lie, as the document tells them.
BOUNDS = ((3, 9), (0, 1000000), (1, 1000000), (1, 1000), (1, 1000))
FAR = 1000000000


def settings(many=3, threshold=10, rate=1000000, misses=3, backs=2):
    """The settings' tuple; the rate is so great that given is the value itself."""
    return (many, threshold, rate, misses, backs)


def with_setting(place, number):
    chosen = list(settings())
    chosen[place] = number
    return tuple(chosen)


def states(voter, many):
    return [voter.state(place) for place in range(many)]


def counts(voter, many):
    return [voter.count(place) for place in range(many)]


def look(voter, many):
    """All that can be asked of a voter."""
    return (voter.given(), states(voter, many), counts(voter, many))


def after(chosen, start, steps):
    """A new voter behind these steps."""
    voter = Voter(chosen, start)
    for values in steps:
        voter.step(values)
    return voter


def some_settings(chance):
    return (chance.randint(3, 9), chance.choice((0, 1, 5, 20)), chance.choice((1, 3, 50, 1000000)),
            chance.choice((1, 2, 3, 7)), chance.choice((1, 2, 3, 7)))


def some_thing(chance, truth, how):
    """What a sensor says: near the truth, far off, just beside it, or nothing, by how it lies."""
    if chance.randrange(100) >= how:
        return truth + chance.randint(-3, 3)
    return chance.choice((None, None, truth + 21, truth - 21, truth + 5, truth + chance.randint(-500, 500)))


def some_run(chance, many):
    """Steps in which each sensor lies for a while, now more, now less; at times none says anything."""
    truth = chance.randint(-100, 100)
    how = [chance.choice((0, 10, 60, 100)) for place in range(many)]
    for number in range(STEPS):
        truth += chance.randint(-4, 4)
        if chance.randrange(15) == 0:
            how[chance.randrange(many)] = chance.choice((0, 0, 10, 60, 100))
        if chance.randrange(20) == 0:
            yield [truth if chance.randrange(6) == 0 else None for place in range(many)]
        else:
            yield [some_thing(chance, truth, how[place]) for place in range(many)]


def value_of(numbers, near):
    if not numbers:
        return near
    low, high = statistics.median_low(numbers), statistics.median_high(numbers)
    return low if near - low <= high - near else high


def is_near(thing, value, threshold):
    return thing is not None and value - threshold <= thing <= value + threshold


def liar_runs(seed):
    """For many runs: a chance, settings, and the places of the right sensors, more than half of all."""
    for number in range(RUNS):
        chance = random.Random(seed * 1000 + number)
        many = chance.randint(3, 9)
        threshold = chance.choice((0, 1, 6, 20))
        chosen = settings(many, threshold, misses=chance.choice((1, 2, 4)), backs=chance.choice((1, 2, 4)))
        rights = sorted(chance.sample(range(many), many // 2 + 1))
        yield chance, chosen, rights


def honest(chance, chosen, rights, truth):
    """A step's things with the right ones within the threshold of one another, and the others None."""
    values = [None] * chosen[0]
    for place in rights:
        values[place] = truth + chance.randint(0, chosen[1])
    return values


def lie(chance, said, threshold):
    return chance.choice((
        None, min(said), max(said), min(said) - threshold, max(said) + threshold, min(said) - threshold - 1,
        max(said) + threshold + 1, FAR, -FAR, chance.randint(min(said), max(said))))
