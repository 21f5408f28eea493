"""[31], [32]: what holds of all runs, over longer runs with sensors that lie; and [22] to [24] told anew."""

import random
import unittest

from midvalue.voters import Voter
from tests.helpers import (
    RUNS, STEPS, counts, honest, is_near, liar_runs, lie, look, settings, some_run, some_settings, states, value_of)


class Told:
    """One step of a voter, with what was seen of it ahead and behind."""

    def __init__(self, voter, chosen, values):
        many, threshold = chosen[0], chosen[1]
        self.values = values
        self.given_ahead, self.ahead, self.counts_ahead = look(voter, many)
        self.pair = voter.step(values)
        self.given_behind, self.behind, self.counts_behind = look(voter, many)
        self.numbers = [thing for thing, state in zip(values, self.ahead) if thing is not None and state != "out"]
        self.value = value_of(self.numbers, self.given_ahead)
        self.near = [is_near(thing, self.value, threshold) for thing in values]


def all_told(seed):
    """Settings, and the steps of a run, for many runs."""
    for number in range(RUNS):
        chance = random.Random(seed * 1000 + number)
        chosen = some_settings(chance)
        voter = Voter(chosen, chance.randint(-100, 100))
        yield chosen, [Told(voter, chosen, values) for values in some_run(chance, chosen[0])]


class AllRuns(unittest.TestCase):
    def test_runs_reach_all_there_is(self):
        words, changes = set(), set()
        for chosen, steps in all_told(1):
            for one in steps:
                words.add(one.pair[1])
                changes.update(zip(one.ahead, one.behind))
        self.assertEqual(words, {"lost", "single", "split", "most", "all"})
        self.assertGreaterEqual(changes, {("good", "out"), ("suspect", "out"), ("out", "good"), ("suspect", "good")})

    def test_given_moves_by_at_most_rate_towards_the_value(self):
        for chosen, steps in all_told(2):
            for one in steps:
                way = one.value - one.given_ahead
                self.assertLessEqual(abs(one.given_behind - one.given_ahead), chosen[2])
                self.assertEqual(one.given_behind - one.given_ahead, max(-chosen[2], min(chosen[2], way)))
                self.assertEqual(one.pair[0], one.given_behind)

    def test_words(self):
        for chosen, steps in all_told(3):
            for one in steps:
                near = sum(is_near(number, one.value, chosen[1]) for number in one.numbers)
                few = {0: "lost", 1: "single"}.get(len(one.numbers))
                many = "all" if near == chosen[0] else "most"
                self.assertEqual(one.pair[1], few or (many if near > len(one.numbers) - near else "split"))

    def test_at_least_one_is_not_out(self):
        for chosen, steps in all_told(4):
            for one in steps:
                self.assertTrue([state for state in one.behind if state != "out"])

    def test_states_fit_counts(self):
        for chosen, steps in all_told(5):
            for one in steps:
                for state, number in zip(one.behind, one.counts_behind):
                    self.assertGreaterEqual(number, 0)
                    if state == "out":
                        self.assertLess(number, chosen[4])
                    else:
                        self.assertEqual(state, "suspect" if number else "good")

    def test_left_out_for_good_reasons_only(self):
        for chosen, steps in all_told(6):
            more = [0] * chosen[0]
            for one in steps:
                for place in range(chosen[0]):
                    if one.ahead[place] == "out":
                        continue
                    if one.counts_ahead[place] == 0:
                        more[place] = 0
                    more[place] += -1 if one.near[place] else 1
                    is_due = more[place] >= chosen[3]
                    if one.behind[place] == "out":
                        self.assertTrue(is_due)
                        self.assertFalse(one.near[place])
                    elif is_due and not one.near[place]:
                        # Due, and yet in: then it is the last one.
                        self.assertEqual([p for p, state in enumerate(one.behind) if state != "out"], [place])

    def test_taken_back_for_good_reasons_only(self):
        for chosen, steps in all_told(7):
            row = [0] * chosen[0]
            for one in steps:
                for place in range(chosen[0]):
                    if one.ahead[place] != "out":
                        row[place] = 0
                        continue
                    row[place] = row[place] + 1 if one.near[place] and one.numbers else 0
                    self.assertEqual(one.behind[place] != "out", row[place] == chosen[4])
                    self.assertEqual(one.counts_behind[place], row[place] % chosen[4])

    def test_value_lies_in_each_stretch_that_holds_more_than_half(self):
        for chosen, steps in all_told(8):
            for one in steps:
                ordered = sorted(one.numbers)
                most = len(ordered) // 2 + 1
                for least, greatest in zip(ordered, ordered[most - 1:]):
                    self.assertTrue(least <= one.value <= greatest)
                    if chosen[2] == 1000000:
                        self.assertTrue(least <= one.pair[0] <= greatest)


class Liars(unittest.TestCase):
    """More than half are right at each step; the others say what harms most, or anything."""

    def test_right_ones_never_disagree_and_hold_the_value(self):
        for chance, chosen, rights in liar_runs(11):
            truth = chance.randint(-1000, 1000)
            voter = Voter(chosen, truth)
            for number in range(STEPS):
                truth += chance.randint(-50, 50)
                values = honest(chance, chosen, rights, truth)
                said = [values[place] for place in rights]
                for place in range(chosen[0]):
                    if place not in rights:
                        values[place] = lie(chance, said, chosen[1])
                given = voter.step(values)[0]
                self.assertTrue(min(said) <= given <= max(said))
                for place in rights:
                    self.assertEqual((voter.state(place), voter.count(place)), ("good", 0))

    def test_far_off_or_silent_for_misses_steps_is_out(self):
        for chance, chosen, rights in liar_runs(12):
            truth = chance.randint(-1000, 1000)
            voter = Voter(chosen, truth)
            row = [0] * chosen[0]
            for number in range(STEPS):
                truth += chance.randint(-50, 50)
                values = honest(chance, chosen, rights, truth)
                low = min(values[place] for place in rights) - chosen[1]
                high = max(values[place] for place in rights) + chosen[1]
                for place in range(chosen[0]):
                    if place not in rights:
                        is_far = chance.randrange(4) > 0
                        far = (None, low - 1, high + 1, 1000000000, -1000000000)
                        values[place] = chance.choice(far) if is_far else chance.randint(low, high)
                        row[place] = row[place] + 1 if is_far else 0
                voter.step(values)
                for place in range(chosen[0]):
                    if row[place] >= chosen[3]:
                        self.assertEqual(voter.state(place), "out")

    def test_fewer_right_ones_suffice_once_liars_are_out(self):
        # Two of five are more than half of those that aren't out, once three are out.
        voter = Voter(settings(5, 10, misses=2, backs=1000), 100)
        for number in range(2):
            voter.step([100, 100, 100, 900, -900])
        for number in range(2):
            voter.step([100, 100, None, 900, -900])
        self.assertEqual(states(voter, 5), ["good", "good", "out", "out", "out"])
        for number in range(STEPS):
            given, word = voter.step([100 + number, 110 + number, 900, 900, 900])
            self.assertTrue(100 + number <= given <= 110 + number)
            self.assertEqual(word, "most")
            self.assertEqual(counts(voter, 2), [0, 0])


if __name__ == "__main__":
    unittest.main()
