"""Whole runs: what a new voter tells at each of a list of steps, and who is left out or taken back at it."""

from midvalue.voters import Voter


def run(settings, start, steps):
    voter = Voter(settings, start)
    return [voter.step(values) for values in steps]


def outs(settings, start, steps):
    voter = Voter(settings, start)
    changes = []
    behind = who_is_out(voter)
    for number, values in enumerate(steps):
        ahead = behind
        voter.step(values)
        behind = who_is_out(voter)
        changes.extend([(number, place, behind[place]) for place in range(len(ahead)) if behind[place] != ahead[place]])
    return changes


def who_is_out(voter):
    return [voter.state(place) == "out" for place in range(voter.many)]
