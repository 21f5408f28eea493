"""[22] to [25]: the value, the word, who is left out and taken back, and what is given."""

import unittest

from midvalue.voters import Voter
from tests.helpers import after, counts, look, settings, states


def word(chosen, start, values):
    return Voter(chosen, start).step(values)[1]


class Value(unittest.TestCase):
    def test_odd(self):
        self.assertEqual(Voter(settings(), 0).step([300, 100, 200])[0], 200)

    def test_even_near_to_what_was_given(self):
        for start, value in ((0, 100), (149, 100), (150, 100), (151, 200), (999, 200)):
            self.assertEqual(Voter(settings(), start).step([200, None, 100])[0], value)

    def test_near_to_given_and_not_to_the_last_value(self):
        voter = Voter(settings(rate=1), 0)
        self.assertEqual(voter.step([500, 500, 500]), (1, "all"))
        # Given is 1 though the value was 500: the nearer of the two is -600.
        self.assertEqual(voter.step([-600, None, 700]), (0, "split"))

    def test_who_is_out_has_no_voice(self):
        voter = after(settings(misses=1), 100, [[100, 100, 900]])
        self.assertEqual(states(voter, 3), ["good", "good", "out"])
        self.assertEqual(voter.step([100, 200, 200]), (100, "split"))


class Word(unittest.TestCase):
    def test_lost(self):
        self.assertEqual(word(settings(), 5, [None, None, None]), "lost")
        self.assertEqual(Voter(settings(), 5).step([None, None, None]), (5, "lost"))

    def test_lost_though_one_that_is_out_speaks(self):
        voter = after(settings(misses=1), 100, [[100, 100, 900]])
        self.assertEqual(voter.step([None, None, 900]), (100, "lost"))

    def test_single(self):
        for values in ([7, None, None], [None, 7, None], [None, None, 7]):
            self.assertEqual(Voter(settings(), 0).step(values), (7, "single"))

    def test_single_though_one_that_is_out_speaks(self):
        voter = after(settings(misses=1), 100, [[100, 100, 900]])
        self.assertEqual(voter.step([100, None, 100])[1], "single")

    def test_split_of_just_half(self):
        self.assertEqual(word(settings(), 0, [100, 111, None]), "split")
        self.assertEqual(word(settings(4), 0, [0, 10, 21, 32]), "split")
        self.assertEqual(word(settings(6), 0, [0, 0, 0, 90, 90, 90]), "split")

    def test_split_of_less_than_half(self):
        self.assertEqual(word(settings(), 0, [0, 100, 200]), "split")
        self.assertEqual(word(settings(5), 0, [0, 100, 200, 205, 400]), "split")

    def test_most_of_just_above_half(self):
        self.assertEqual(word(settings(), 0, [100, 110, 900]), "most")
        self.assertEqual(word(settings(4), 0, [0, 5, 10, 90]), "most")
        self.assertEqual(word(settings(5), 0, [0, 100, 105, 95, 400]), "most")

    def test_half_of_those_there_and_not_of_all(self):
        self.assertEqual(word(settings(9), 0, [5, 5, None, None, None, None, None, None, None]), "most")
        self.assertEqual(word(settings(9), 0, [5, 5, 90, 90] + [None] * 5), "split")

    def test_threshold_is_within(self):
        self.assertEqual(word(settings(), 0, [90, 100, 110]), "all")
        self.assertEqual(word(settings(), 0, [89, 100, 110]), "most")
        self.assertEqual(word(settings(), 0, [90, 100, 111]), "most")
        self.assertEqual(word(settings(), 0, [89, 100, 111]), "split")
        self.assertEqual(word(settings(threshold=0), 0, [7, 7, 7]), "all")
        self.assertEqual(word(settings(threshold=0), 0, [7, 7, 8]), "most")

    def test_all_asks_for_all_sensors(self):
        for many in (3, 4, 9):
            self.assertEqual(word(settings(many), 0, [5] * many), "all")
            self.assertEqual(word(settings(many), 0, [5] * (many - 1) + [None]), "most")

    def test_not_all_while_one_is_out(self):
        voter = after(settings(misses=1, backs=2), 100, [[100, 100, 900]])
        self.assertEqual(voter.step([100, 100, 100]), (100, "most"))
        # Taken back at this very step, but not there when the value was taken.
        self.assertEqual(voter.step([100, 100, 100]), (100, "most"))
        self.assertEqual(voter.step([100, 100, 100]), (100, "all"))

    def test_word_is_of_those_there_before_any_is_left_out(self):
        self.assertEqual(word(settings(misses=1), 0, [100, 100, 900]), "most")
        self.assertEqual(word(settings(misses=1), 0, [0, 100, 200]), "split")


class LeftOut(unittest.TestCase):
    def test_counts_up_and_down_and_never_below_0(self):
        voter = Voter(settings(misses=4), 100)
        told = []
        for third in (100, 900, 900, 100, None, 900, 100, 100, 100, 100, 900):
            voter.step([100, 100, third])
            told.append((voter.state(2), voter.count(2)))
        self.assertEqual(told, [
            ("good", 0), ("suspect", 1), ("suspect", 2), ("suspect", 1), ("suspect", 2), ("suspect", 3),
            ("suspect", 2), ("suspect", 1), ("good", 0), ("good", 0), ("suspect", 1)])
        self.assertEqual((states(voter, 2), counts(voter, 2)), (["good", "good"], [0, 0]))

    def test_just_the_threshold_agrees(self):
        voter = Voter(settings(5), 100)
        voter.step([89, 90, 100, 110, 111])
        self.assertEqual(counts(voter, 5), [1, 0, 0, 0, 1])

    def test_out_at_just_misses(self):
        for misses in (1, 2, 5, 1000):
            voter = Voter(settings(misses=misses), 100)
            for number in range(1, misses):
                voter.step([100, 900, 100])
                self.assertEqual((voter.state(1), voter.count(1)), ("suspect", number))
            voter.step([100, 900, 100])
            self.assertEqual(look(voter, 3), (100, ["good", "out", "good"], [0, 0, 0]))

    def test_silence_disagrees(self):
        voter = after(settings(misses=2), 100, [[100, None, 100]])
        self.assertEqual(look(voter, 3), (100, ["good", "suspect", "good"], [0, 1, 0]))
        voter.step([100, None, 100])
        self.assertEqual(look(voter, 3), (100, ["good", "out", "good"], [0, 0, 0]))

    def test_silence_disagrees_though_none_is_there(self):
        voter = after(settings(misses=2), 100, [[None, None, None]])
        self.assertEqual(look(voter, 3), (100, ["suspect"] * 3, [1, 1, 1]))

    def test_in_order_the_first_is_left_out_and_the_last_one_not(self):
        voter = after(settings(misses=1), 100, [[None, None, None]])
        self.assertEqual(look(voter, 3), (100, ["out", "out", "suspect"], [0, 0, 1]))

    def test_split_steps_leave_out_all_but_the_middle(self):
        voter = after(settings(misses=1), 100, [[0, 100, 200]])
        self.assertEqual(look(voter, 3), (100, ["out", "good", "out"], [0, 0, 0]))

    def test_the_last_one_is_never_left_out(self):
        voter = after(settings(misses=2), 100, [[None, 100, None]] * 2)
        self.assertEqual(states(voter, 3), ["out", "good", "out"])
        for number in range(1, 8):
            voter.step([None, None, None])
            self.assertEqual(look(voter, 3), (100, ["out", "suspect", "out"], [0, number, 0]))

    def test_count_above_misses_falls_by_1_only(self):
        voter = after(settings(misses=1), 100, [[None, None, None]] * 4)
        self.assertEqual(look(voter, 3), (100, ["out", "out", "suspect"], [0, 0, 4]))
        voter.step([None, None, 100])
        self.assertEqual(look(voter, 3), (100, ["out", "out", "suspect"], [0, 0, 3]))

    def test_above_misses_and_out_as_soon_as_another_is_in(self):
        voter = after(settings(misses=2, backs=1), 100, [[None, None, None]] * 5)
        self.assertEqual(look(voter, 3), (100, ["out", "out", "suspect"], [0, 0, 5]))
        voter.step([100, None, 100])
        self.assertEqual(look(voter, 3), (100, ["good", "out", "suspect"], [0, 0, 4]))
        voter.step([100, None, None])
        self.assertEqual(look(voter, 3), (100, ["good", "out", "out"], [0, 0, 0]))

    def test_in_order_also_where_some_are_out_or_behind_in_their_counts(self):
        voter = after(settings(5, misses=2), 100, [[100, None, 100, 100, 100]] * 2 + [[100, None, 100, None, 100]])
        self.assertEqual(look(voter, 5), (100, ["good", "out", "good", "suspect", "good"], [0, 0, 0, 1, 0]))
        voter.step([None] * 5)
        self.assertEqual(look(voter, 5), (100, ["suspect", "out", "suspect", "out", "suspect"], [1, 0, 1, 0, 1]))
        voter.step([None] * 5)
        self.assertEqual(look(voter, 5), (100, ["out", "out", "out", "out", "suspect"], [0, 0, 0, 0, 2]))

    def test_one_is_left_out_and_one_taken_back_at_the_same_step(self):
        voter = after(settings(4, misses=1, backs=1), 100, [[900, 900, 100, 100]])
        self.assertEqual(look(voter, 4), (100, ["out", "out", "good", "good"], [0, 0, 0, 0]))
        voter.step([900, 100, None, 100])
        self.assertEqual(look(voter, 4), (100, ["out", "good", "out", "good"], [0, 0, 0, 0]))


class TakenBack(unittest.TestCase):
    def out(self, backs):
        voter = after(settings(misses=1, backs=backs), 100, [[100, 100, 900]])
        self.assertEqual(look(voter, 3), (100, ["good", "good", "out"], [0, 0, 0]))
        return voter

    def test_back_at_just_backs(self):
        for backs in (1, 2, 5, 1000):
            voter = self.out(backs)
            for number in range(1, backs):
                voter.step([100, 100, 100])
                self.assertEqual((voter.state(2), voter.count(2)), ("out", number))
            voter.step([100, 100, 100])
            self.assertEqual(look(voter, 3), (100, ["good"] * 3, [0, 0, 0]))

    def test_just_the_threshold_counts(self):
        for number, told in ((89, 0), (90, 1), (110, 1), (111, 0)):
            voter = self.out(3)
            voter.step([100, 100, number])
            self.assertEqual((voter.state(2), voter.count(2)), ("out", told))

    def test_one_behind_the_other(self):
        for wrong in (900, None):
            voter = self.out(3)
            told = []
            for third in (100, 100, wrong, 100, 100, wrong, wrong, 100, 100, 100):
                voter.step([100, 100, third])
                told.append((voter.state(2), voter.count(2)))
            self.assertEqual(told, [
                ("out", 1), ("out", 2), ("out", 0), ("out", 1), ("out", 2), ("out", 0), ("out", 0),
                ("out", 1), ("out", 2), ("good", 0)])

    def test_none_there_nobody_is_taken_back_or_counted(self):
        voter = self.out(2)
        voter.step([100, 100, 100])
        self.assertEqual(voter.count(2), 1)
        self.assertEqual(voter.step([None, None, 100]), (100, "lost"))
        # The first is left out too (misses is 1); the second is the last one.
        self.assertEqual(look(voter, 3), (100, ["out", "suspect", "out"], [0, 1, 0]))
        for number in range(2, 6):
            voter.step([100, None, 100])
            self.assertEqual(look(voter, 3), (100, ["out", "suspect", "out"], [0, number, 0]))

    def test_back_at_once_but_not_while_none_is_there(self):
        voter = self.out(1)
        voter.step([None, None, 100])
        self.assertEqual(voter.state(2), "out")
        voter.step([None, 100, 100])
        self.assertEqual(voter.state(2), "good")

    def test_who_is_left_out_at_a_step_is_not_counted_at_it(self):
        voter = after(settings(misses=1, backs=1), 100, [[None, None, None]])
        self.assertEqual(look(voter, 3), (100, ["out", "out", "suspect"], [0, 0, 1]))

    def test_back_is_good_and_may_be_left_out_again(self):
        voter = self.out(1)
        voter.step([100, 100, 100])
        self.assertEqual(look(voter, 3), (100, ["good"] * 3, [0, 0, 0]))
        voter.step([100, 100, 900])
        self.assertEqual(voter.state(2), "out")

    def test_measured_by_the_value_and_not_by_what_is_given(self):
        voter = after(settings(rate=1, misses=1, backs=1), 100, [[100, 100, 900]])
        self.assertEqual(voter.step([500, 500, 101]), (101, "most"))
        self.assertEqual(voter.state(2), "out")
        self.assertEqual(voter.step([500, 500, 500]), (102, "most"))
        self.assertEqual(states(voter, 3), ["good"] * 3)


class Given(unittest.TestCase):
    def test_up_by_at_most_rate(self):
        voter = Voter(settings(rate=40), 0)
        told = [voter.step([100, 100, 100]) for number in range(4)]
        self.assertEqual(told, [(40, "all"), (80, "all"), (100, "all"), (100, "all")])

    def test_down_by_at_most_rate(self):
        voter = Voter(settings(rate=40), 0)
        told = [voter.step([-100, -100, -100])[0] for number in range(4)]
        self.assertEqual(told, [-40, -80, -100, -100])

    def test_by_just_rate_one_less_and_one_more(self):
        for value, told in ((39, 39), (40, 40), (41, 40), (-39, -39), (-40, -40), (-41, -40)):
            self.assertEqual(Voter(settings(rate=40), 0).step([value] * 3)[0], told)

    def test_lost_gives_what_was_given(self):
        voter = Voter(settings(rate=40), 0)
        voter.step([100, 100, 100])
        self.assertEqual(voter.step([None, None, None]), (40, "lost"))
        self.assertEqual(voter.given(), 40)

    def test_pair_and_given(self):
        voter = Voter(settings(rate=40), 7)
        told = voter.step([100, 100, 100])
        self.assertIsInstance(told, tuple)
        self.assertEqual(told, (47, "all"))
        self.assertEqual(voter.given(), 47)

    def test_start_far_beyond_the_sensors(self):
        voter = Voter(settings(), 10 ** 12)
        self.assertEqual(voter.step([5, 5, 5])[0], 10 ** 12 - 1000000)


class Apart(unittest.TestCase):
    def test_two_voters_know_nothing_of_each_other(self):
        chosen = settings(misses=2)
        one = Voter(chosen, 100)
        other = Voter(chosen, 100)
        for number in range(2):
            one.step([200, 200, 900])
        self.assertEqual(look(one, 3), (200, ["good", "good", "out"], [0, 0, 0]))
        self.assertEqual(look(other, 3), (100, ["good"] * 3, [0, 0, 0]))
        other.step([None, 100, 100])
        self.assertEqual(look(one, 3), (200, ["good", "good", "out"], [0, 0, 0]))
        self.assertEqual(look(other, 3), (100, ["suspect", "good", "good"], [1, 0, 0]))

    def test_list_stays_and_may_be_changed_behind(self):
        one = Voter(settings(misses=2), 100)
        other = Voter(settings(misses=2), 100)
        for third in (900, 100, 900, 900, 100, 100):
            values = [100, 105, third]
            told = one.step(values)
            self.assertEqual(values, [100, 105, third])
            self.assertEqual(told, other.step([100, 105, third]))
            before = look(one, 3)
            values[0] = -5
            values.append(None)
            self.assertEqual(look(one, 3), before)
            self.assertEqual(look(one, 3), look(other, 3))

    def test_one_list_for_two_steps(self):
        values = [100, 100, 900]
        voter = Voter(settings(misses=5), 100)
        voter.step(values)
        values[2] = 100
        values[0] = 900
        voter.step(values)
        self.assertEqual(counts(voter, 3), [1, 0, 0])

    def test_asking_changes_nothing(self):
        voter = after(settings(misses=2), 100, [[100, 100, 900]])
        before = look(voter, 3)
        for number in range(3):
            self.assertEqual(look(voter, 3), before)


if __name__ == "__main__":
    unittest.main()
