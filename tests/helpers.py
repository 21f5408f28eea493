"""What several test files need."""

from midvalue.voters import Voter


def settings(many=3, threshold=10, rate=1000000, misses=3, backs=2):
    """The settings' tuple; the rate is so great that given is the value itself."""
    return (many, threshold, rate, misses, backs)


def states(voter, many):
    return [voter.state(place) for place in range(many)]


def counts(voter, many):
    return [voter.count(place) for place in range(many)]


def look(voter, many):
    """All that can be asked of a voter."""
    return (voter.given(), states(voter, many), counts(voter, many))


def after(chosen, start, steps):
    """A new voter behind these steps."""
    voter = Voter(chosen, start)
    for values in steps:
        voter.step(values)
    return voter
