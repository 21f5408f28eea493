"""[30]: run and outs; [31], [32]: what holds of all runs, by what run and outs tell."""

import copy
import random
import unittest

from midvalue.errors import BadSettings, BadStep
from midvalue.runs import outs, run
from midvalue.voters import Voter
from tests.helpers import (
    BOUNDS, FAR, RUNS, STEPS, honest, is_near, liar_runs, lie, settings, some_run, some_settings, states, value_of,
    with_setting)

BOTH = (run, outs)


def all_runs(seed):
    """Settings, a start and steps, for many runs."""
    for number in range(RUNS):
        chance = random.Random(seed * 1000 + number)
        chosen = some_settings(chance)
        yield chosen, chance.randint(-100, 100), list(some_run(chance, chosen[0]))


def changes_of(voter, many, steps):
    """What outs is to tell, by the voter's own states ahead of and behind each step."""
    told = []
    for number, values in enumerate(steps):
        ahead = states(voter, many)
        voter.step(values)
        for place, (old, new) in enumerate(zip(ahead, states(voter, many))):
            if (old == "out") != (new == "out"):
                told.append((number, place, new == "out"))
    return told


def out_at(many, changes, number):
    """Who is out behind so many steps, by what outs told."""
    is_out = [False] * many
    for step, place, now in changes:
        if step < number:
            is_out[place] = now
    return is_out


class Run(unittest.TestCase):
    def test_an_ordinary_run(self):
        steps = [[101, 99, 103], [102, 900, 104], [103, 900, None], [None, None, None], [120, 7, None]]
        told = run(settings(3, 10, 15, 2, 3), 100, steps)
        self.assertIsInstance(told, list)
        self.assertEqual(told, [(101, "all"), (104, "most"), (103, "split"), (103, "lost"), (118, "single")])
        self.assertEqual([one.__class__ for one in told], [tuple] * 5)

    def test_very_pairs_of_a_new_voters_steps(self):
        for chosen, start, steps in all_runs(21):
            voter = Voter(chosen, start)
            self.assertEqual(run(chosen, start, steps), [voter.step(values) for values in steps])

    def test_no_steps(self):
        for many in (3, 9):
            self.assertEqual(run(settings(many), 5, []), [])

    def test_starts_beyond_the_sensors_bounds(self):
        self.assertEqual(run(settings(), 10 ** 30, [[5, 5, 5]]), [(10 ** 30 - 1000000, "all")])
        self.assertEqual(run(settings(), -10 ** 30, [[None] * 3]), [(-10 ** 30, "lost")])

    def test_numbers_at_their_bounds(self):
        self.assertEqual(run(settings(), FAR, [[FAR] * 3, [FAR, FAR, -FAR]]), [(FAR, "all"), (FAR, "most")])
        self.assertEqual(run(settings(), -FAR, [[-FAR] * 3]), [(-FAR, "all")])


class Outs(unittest.TestCase):
    def test_left_out_and_taken_back(self):
        steps = [[100, 100, 900], [100, 100, 900], [100, 100, 100], [100, 100, 100], [100, 100, 100]]
        told = outs(settings(misses=2, backs=3), 100, steps)
        self.assertIsInstance(told, list)
        self.assertEqual(told, [(1, 2, True), (4, 2, False)])
        for step, place, is_out in told:
            self.assertIsInstance(is_out, bool)
        self.assertEqual([one.__class__ for one in told], [tuple] * 2)

    def test_at_the_first_step(self):
        self.assertEqual(outs(settings(misses=1), 100, [[900, 100, 100]]), [(0, 0, True)])

    def test_one_step_short(self):
        steps = [[100, 900, 100]] * 3
        self.assertEqual(outs(settings(misses=3), 100, steps), [(2, 1, True)])
        self.assertEqual(outs(settings(misses=4), 100, steps), [])

    def test_several_at_one_step(self):
        chosen = settings(7, misses=2, backs=2)
        far = [900, 100, -900, 100, None, 100, 100]
        near = [100] * 7
        self.assertEqual(outs(chosen, 100, [far, far, near, near]), [
            (1, 0, True), (1, 2, True), (1, 4, True), (3, 0, False), (3, 2, False), (3, 4, False)])

    def test_left_out_and_taken_back_at_the_same_step_by_place(self):
        steps = [[900, 900, 100, 100], [900, 100, None, 100], [100, None, 100, 100]]
        self.assertEqual(outs(settings(4, misses=1, backs=1), 100, steps), [
            (0, 0, True), (0, 1, True), (1, 1, False), (1, 2, True), (2, 0, False), (2, 1, True), (2, 2, False)])

    def test_out_and_back_several_times(self):
        steps = [[100, 100, 900], [100, 100, 100]] * 4
        expected = [(number, 2, number % 2 == 0) for number in range(8)]
        self.assertEqual(outs(settings(misses=1, backs=1), 100, steps), expected)

    def test_suspects_and_those_cleared_are_not_told(self):
        self.assertEqual(outs(settings(misses=3), 100, [[100, 100, 900], [100, 100, 900], [100, 100, 100]]), [])

    def test_the_last_one_is_not_told(self):
        self.assertEqual(outs(settings(misses=1), 100, [[None] * 3] * 5), [(0, 0, True), (0, 1, True)])

    def test_against_a_voters_own_states(self):
        found = []
        for chosen, start, steps in all_runs(22):
            told = outs(chosen, start, steps)
            self.assertEqual(told, changes_of(Voter(chosen, start), chosen[0], steps))
            self.assertEqual(told, sorted(told))
            found.extend(is_out for step, place, is_out in told)
        self.assertIn(True, found)
        self.assertIn(False, found)

    def test_no_steps(self):
        for many in (3, 9):
            self.assertEqual(outs(settings(many), 5, []), [])

    def test_nobody_is_left_out(self):
        self.assertEqual(outs(settings(misses=1), 100, [[100, 105, 110]] * 9), [])


class Refusals(unittest.TestCase):
    def test_settings_at_their_bounds(self):
        for place, bounds in enumerate(BOUNDS):
            for number in bounds:
                chosen = with_setting(place, number)
                self.assertEqual(run(chosen, 7, [[7] * chosen[0]]), [(7, "all")])
                self.assertEqual(outs(chosen, 7, [[7] * chosen[0]]), [])

    def test_settings_one_beyond(self):
        for place, (low, high) in enumerate(BOUNDS):
            for number in (low - 1, high + 1):
                for asked in BOTH:
                    for steps in ([], [[7] * 3], [[7] * number]):
                        with self.assertRaises(BadSettings, msg=(asked, place, number)):
                            asked(with_setting(place, number), 7, steps)

    def test_wrong_steps_wherever_they_stand(self):
        wrong = ([], [7], [7] * 2, [7] * 4, [None] * 4, [7] * 9, [FAR + 1, 7, 7], [7, -FAR - 1, 7], [7, None, FAR + 1])
        for asked in BOTH:
            for values in wrong:
                for place in (0, 3, 6):
                    steps = [[7, 7, 7] for number in range(6)]
                    steps.insert(place, values)
                    with self.assertRaises(BadStep, msg=(asked, values, place)):
                        asked(settings(), 7, steps)

    def test_settings_ahead_of_steps(self):
        for asked in BOTH:
            for place, (low, high) in enumerate(BOUNDS):
                for number in (low - 1, high + 1):
                    for steps in ([[]], [[7] * 3, [FAR + 1] * 3], [[7] * 2] * 2):
                        with self.assertRaises(BadSettings):
                            asked(with_setting(place, number), 7, steps)

    def test_what_was_refused_changes_nothing(self):
        right = [[100, 100, 900], [100, 100, 900], [100, 100, 100]]
        wrong = right + [[100, 100]]
        chosen = settings(misses=2, backs=1)
        for asked in BOTH:
            told = asked(chosen, 100, right)
            kept = copy.deepcopy(wrong)
            with self.assertRaises(BadStep):
                asked(chosen, 100, wrong)
            with self.assertRaises(BadSettings):
                asked(with_setting(0, 2), 100, wrong)
            self.assertEqual(wrong, kept)
            self.assertEqual(asked(chosen, 100, right), told)


class Stays(unittest.TestCase):
    def test_lists_stay_and_asked_again_the_same_is_told(self):
        for chosen, start, steps in list(all_runs(23))[:30]:
            kept = copy.deepcopy(steps)
            for asked in BOTH:
                told = asked(chosen, start, steps)
                self.assertEqual(steps, kept)
                self.assertEqual(asked(chosen, start, steps), told)

    def test_one_list_for_several_steps(self):
        values = [100, 100, 900]
        self.assertEqual(outs(settings(misses=3), 100, [values] * 3), [(2, 2, True)])

    def test_told_lists_are_the_askers_own(self):
        steps = [[100, 100, 900], [100, 100, 100]]
        for asked in BOTH:
            told = asked(settings(misses=1, backs=1), 100, steps)
            kept = list(told)
            told.append("mine")
            told[0] = None
            self.assertEqual(asked(settings(misses=1, backs=1), 100, steps), kept)
        self.assertEqual(steps, [[100, 100, 900], [100, 100, 100]])

    def test_steps_may_be_changed_behind(self):
        for asked in BOTH:
            steps = [[100, 100, 900], [100, 100, 100]]
            told = asked(settings(misses=1, backs=1), 100, steps)
            kept = list(told)
            steps[0][0] = -5
            steps.pop()
            self.assertEqual(told, kept)


class Seen:
    """One step of a run, by what run and outs told of it."""

    def __init__(self, chosen, values, given_ahead, pair, ahead, behind):
        self.given_ahead = given_ahead
        self.given = pair[0]
        self.ahead = ahead
        self.behind = behind
        self.numbers = [thing for thing, is_out in zip(values, ahead) if thing is not None and not is_out]
        self.value = value_of(self.numbers, given_ahead)
        self.near = [is_near(thing, self.value, chosen[1]) for thing in values]


def all_seen(seed):
    """Settings, and each step of a run, for many runs."""
    for chosen, start, steps in all_runs(seed):
        pairs = run(chosen, start, steps)
        changes = outs(chosen, start, steps)
        givens = [start] + [given for given, word in pairs]
        is_out = [out_at(chosen[0], changes, number) for number in range(len(steps) + 1)]
        yield chosen, [Seen(chosen, values, givens[number], pairs[number], is_out[number], is_out[number + 1])
                       for number, values in enumerate(steps)]


class AllRuns(unittest.TestCase):
    def test_given_moves_by_at_most_rate(self):
        for chosen, steps in all_seen(24):
            for one in steps:
                self.assertLessEqual(abs(one.given - one.given_ahead), chosen[2])

    def test_at_least_one_is_not_out(self):
        for chosen, steps in all_seen(25):
            for one in steps:
                self.assertIn(False, one.behind)

    def test_left_out_for_good_reasons_only(self):
        for chosen, steps in all_seen(26):
            more = [0] * chosen[0]
            for one in steps:
                for place in range(chosen[0]):
                    if one.ahead[place]:
                        more[place] = 0
                        continue
                    more[place] = max(0, more[place] - 1) if one.near[place] else more[place] + 1
                    if one.behind[place]:
                        self.assertGreaterEqual(more[place], chosen[3])
                        self.assertFalse(one.near[place])

    def test_taken_back_for_good_reasons_only(self):
        for chosen, steps in all_seen(27):
            row = [0] * chosen[0]
            for one in steps:
                for place in range(chosen[0]):
                    row[place] = row[place] + 1 if one.ahead[place] and one.near[place] and one.numbers else 0
                    if one.ahead[place]:
                        self.assertEqual(not one.behind[place], row[place] >= chosen[4])

    def test_value_lies_in_each_stretch_that_holds_more_than_half(self):
        for chosen, steps in all_seen(28):
            for one in steps:
                ordered = sorted(one.numbers)
                for least, greatest in zip(ordered, ordered[len(ordered) // 2:]):
                    # What is given is the value itself, or on its way towards the stretch by just rate.
                    if one.given < least:
                        self.assertEqual(one.given, one.given_ahead + chosen[2])
                    if one.given > greatest:
                        self.assertEqual(one.given, one.given_ahead - chosen[2])


class Liars(unittest.TestCase):
    """More than half are right at each step; the others say what harms most, or anything."""

    def test_right_ones_are_never_left_out_and_hold_the_value(self):
        for chance, chosen, rights in liar_runs(31):
            # With misses 1 whoever disagrees but once is left out.
            chosen = chosen[:3] + (1,) + chosen[4:]
            truth = chance.randint(-1000, 1000)
            start = truth
            steps = []
            for number in range(STEPS):
                truth += chance.randint(-50, 50)
                values = honest(chance, chosen, rights, truth)
                said = [values[place] for place in rights]
                steps.append([
                    thing if place in rights else lie(chance, said, chosen[1]) for place, thing in enumerate(values)])
            for values, (given, word) in zip(steps, run(chosen, start, steps)):
                said = [values[place] for place in rights]
                self.assertTrue(min(said) <= given <= max(said))
            self.assertFalse([one for one in outs(chosen, start, steps) if one[1] in rights])

    def test_far_off_or_silent_for_misses_steps_is_out(self):
        for chance, chosen, rights in liar_runs(32):
            truth = chance.randint(-1000, 1000)
            start = truth
            steps = []
            rows = [[0] * chosen[0]]
            for number in range(STEPS):
                truth += chance.randint(-50, 50)
                values = honest(chance, chosen, rights, truth)
                said = [values[place] for place in rights]
                low, high = min(said) - chosen[1], max(said) + chosen[1]
                row = list(rows[-1])
                for place in range(chosen[0]):
                    if place not in rights:
                        is_far = chance.randrange(4) > 0
                        far = (None, low - 1, high + 1, FAR, -FAR)
                        values[place] = chance.choice(far) if is_far else chance.randint(low, high)
                        row[place] = row[place] + 1 if is_far else 0
                steps.append(values)
                rows.append(row)
            changes = outs(chosen, start, steps)
            for number, row in enumerate(rows):
                is_out = out_at(chosen[0], changes, number)
                for place in range(chosen[0]):
                    if row[place] >= chosen[3]:
                        self.assertTrue(is_out[place])

    def test_fewer_right_ones_suffice_once_liars_are_out(self):
        chosen = settings(5, 10, misses=2, backs=1000)
        steps = [[100, 100, 100, 900, -900]] * 2 + [[100, 100, None, 900, -900]] * 2
        steps += [[100 + number, 110 + number, 900, 900, 900] for number in range(STEPS)]
        self.assertEqual(outs(chosen, 100, steps), [(1, 3, True), (1, 4, True), (3, 2, True)])
        for number, (given, word) in enumerate(run(chosen, 100, steps)[4:]):
            self.assertTrue(100 + number <= given <= 110 + number)
            self.assertEqual(word, "most")


if __name__ == "__main__":
    unittest.main()
