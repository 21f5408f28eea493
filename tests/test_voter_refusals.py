"""[20], [21], [25] and [2]: what a voter is made of, what it refuses, and that a refusal changes nothing."""

import unittest

from midvalue.errors import BadSettings, BadStep, NoSensor
from midvalue.voters import Voter
from tests.helpers import BOUNDS, FAR, after, look, settings, with_setting


def stirred():
    """A voter with a sensor of each state, and a count at one that is out."""
    voter = after(settings(5, 10, 7, 2, 3), 100, [
        [100, 100, 100, 100, 900],
        [100, 100, 100, 100, 900],
        [100, 100, 100, 900, 105],
    ])
    return voter


STIRRED = (100, ["good", "good", "good", "suspect", "out"], [0, 0, 0, 1, 1])


class Made(unittest.TestCase):
    def test_new_voter(self):
        for many in range(3, 10):
            self.assertEqual(look(Voter(settings(many), -42), many), (-42, ["good"] * many, [0] * many))

    def test_start_is_any_whole_number(self):
        for start in (0, -1, FAR + 1, -FAR - 1, 10 ** 30):
            self.assertEqual(Voter(settings(), start).given(), start)

    def test_at_the_bounds(self):
        for place, bounds in enumerate(BOUNDS):
            for number in bounds:
                chosen = with_setting(place, number)
                many = chosen[0]
                self.assertEqual(look(Voter(chosen, 5), many), (5, ["good"] * many, [0] * many))

    def test_all_at_their_bounds(self):
        Voter(tuple(low for low, high in BOUNDS), 0)
        Voter(tuple(high for low, high in BOUNDS), 0)

    def test_beyond_the_bounds(self):
        for place, (low, high) in enumerate(BOUNDS):
            for number in (low - 1, high + 1, -high, high * 1000):
                with self.assertRaises(BadSettings, msg=(place, number)):
                    Voter(with_setting(place, number), 5)

    def test_too_few_and_too_many(self):
        for chosen in ((), (3,), (3, 10, 5, 3), (3, 10, 5, 3, 2, 1)):
            with self.assertRaises(BadSettings):
                Voter(chosen, 5)

    def test_no_whole_numbers(self):
        for place in range(5):
            for thing in (None, "3", True):
                with self.assertRaises(BadSettings):
                    Voter(with_setting(place, thing), 5)
        for start in (None, "3", True, False):
            with self.assertRaises(BadSettings):
                Voter(settings(), start)


class Steps(unittest.TestCase):
    def refuses(self, voter, many, values):
        before = look(voter, many)
        kept = list(values)
        with self.assertRaises(BadStep):
            voter.step(values)
        self.assertEqual(look(voter, many), before)
        self.assertEqual(values, kept)

    def test_too_few_and_too_many(self):
        for many in (3, 4, 9):
            voter = Voter(settings(many), 0)
            for length in (0, 1, many - 1, many + 1, many * 2):
                self.refuses(voter, many, [5] * length)
                self.refuses(voter, many, [None] * length)

    def test_numbers_at_the_bounds(self):
        for number in (FAR, -FAR):
            for place in range(3):
                values = [None] * 3
                values[place] = number
                voter = Voter(settings(), number)
                self.assertEqual(voter.step(values), (number, "single"))
        self.assertEqual(Voter(settings(), FAR).step([FAR, FAR, FAR]), (FAR, "all"))

    def test_numbers_beyond_the_bounds(self):
        voter = Voter(settings(), 0)
        for number in (FAR + 1, -FAR - 1, FAR * FAR, -FAR * FAR):
            for place in range(3):
                values = [5, 5, 5]
                values[place] = number
                self.refuses(voter, 3, values)

    def test_beyond_the_bounds_though_the_sensor_is_out(self):
        voter = stirred()
        for number in (FAR + 1, -FAR - 1):
            self.refuses(voter, 5, [100, 100, 100, 100, number])
        self.assertEqual(look(voter, 5), STIRRED)

    def test_other_things(self):
        voter = Voter(settings(), 0)
        for thing in ("5", True, False, [5], (5,)):
            self.refuses(voter, 3, [5, 5, thing])

    def test_none_says_nothing(self):
        self.assertEqual(Voter(settings(), 5).step([None, None, None]), (5, "lost"))
        self.assertEqual(Voter(settings(), 5).step([None, 7, None]), (7, "single"))


class Places(unittest.TestCase):
    def test_no_sensor(self):
        for many in (3, 9):
            voter = Voter(settings(many), 0)
            for place in (-1, -many, many, many + 1, FAR, -FAR):
                with self.assertRaises(NoSensor):
                    voter.state(place)
                with self.assertRaises(NoSensor):
                    voter.count(place)

    def test_states_and_counts(self):
        self.assertEqual(look(stirred(), 5), STIRRED)


class NothingChanges(unittest.TestCase):
    def test_refused_voter(self):
        voter = stirred()
        for chosen in (with_setting(0, 2), with_setting(4, 0), ()):
            with self.assertRaises(BadSettings):
                Voter(chosen, 1)
        self.assertEqual(look(voter, 5), STIRRED)

    def test_refused_init_of_a_voter_there(self):
        voter = stirred()
        with self.assertRaises(BadSettings):
            voter.__init__(with_setting(0, 10), 1)
        with self.assertRaises(BadSettings):
            voter.__init__(settings(9), None)
        self.assertEqual(look(voter, 5), STIRRED)

    def test_refused_step(self):
        voter = stirred()
        for values in ([], [900] * 4, [900] * 6, [900] * 4 + [FAR + 1], [-FAR - 1] + [None] * 4):
            with self.assertRaises(BadStep):
                voter.step(values)
            self.assertEqual(look(voter, 5), STIRRED)

    def test_refused_state_and_count(self):
        voter = stirred()
        for place in (-1, 5):
            with self.assertRaises(NoSensor):
                voter.state(place)
            with self.assertRaises(NoSensor):
                voter.count(place)
        self.assertEqual(look(voter, 5), STIRRED)

    def test_steps_go_on_as_if_nothing_was_refused(self):
        refused = stirred()
        other = stirred()
        for values in ([100, 101, 99, 900, 100], [100, 100, 100, 100, 100]):
            with self.assertRaises(BadStep):
                refused.step([FAR + 1] * 5)
            self.assertEqual(refused.step(values), other.step(values))
            self.assertEqual(look(refused, 5), look(other, 5))


if __name__ == "__main__":
    unittest.main()
