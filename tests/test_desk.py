"""[50]: the desk, row by row."""

import random
import re
import unittest

from midvalue.desk import play
from midvalue.voters import Voter
from tests.helpers import BOUNDS, FAR, some_run, some_settings, states

BAD_ROW = "refused: BadRow"
BAD_SETTINGS = "refused: BadSettings"
BAD_STEP = "refused: BadStep"
NO_SENSOR = "refused: NoSensor"

# Three sensors; the third is left out by its second miss, and taken back at its third agreement.
VOTER = "voter 3 10 50 2 3 100"
# Behind these rows each sensor has another state, and one that is out a count.
STIRRED = [
    "voter 5 10 7 2 3 100", "step 100 100 100 100 900", "step 100 100 100 100 900", "step 100 100 100 900 105"]
LOOK = ["given", "sensor 0", "sensor 1", "sensor 2", "sensor 3", "sensor 4"]
STIRRED_LOOK = ["100", "good 0", "good 0", "good 0", "suspect 1", "out 1"]

# Words that are no N, among them those that Python's int would take.
NO_NUMBERS = ("-", "-0", "00", "01", "-01", "007", "+1", "+0", "--1", "1-", "1.0", "1e2", "1_0", "0x1", "12345678901",
              "-12345678901", "00000000001", "", "none0", "None", "NONE", "\u0661", "\u00b2", "\uff11", "1\t", "\t1",
              "1\r", "a", "-none")


def rows(*parts):
    return "\n".join(parts)


def answers(*parts):
    return play(rows(*parts))


def behind(*parts):
    """What is answered to these rows once there is a voter."""
    return answers(VOTER, *parts)[1:]


def as_row(values):
    return "step " + " ".join("none" if thing is None else str(thing) for thing in values)


class Rows(unittest.TestCase):
    def test_each_kind(self):
        told = answers(VOTER, "given", "step 101 99 103", "step 102 900 104", "step 103 900 none", "given", "sensor 0",
                       "sensor 1", "sensor 2", "step none none none")
        self.assertIsInstance(told, list)
        self.assertEqual(told, ["ok", "100", "101 all", "104 most", "103 split", "103", "good 0", "out 0", "suspect 1",
                                "103 lost"])

    def test_each_word(self):
        self.assertEqual(behind("step 100 100 100"), ["100 all"])
        self.assertEqual(behind("step 100 100 900"), ["100 most"])
        self.assertEqual(behind("step 0 100 900"), ["100 split"])
        self.assertEqual(behind("step none 100 none"), ["100 single"])
        self.assertEqual(behind("step none none none"), ["100 lost"])

    def test_negative_answers(self):
        self.assertEqual(answers("voter 3 10 50 2 3 -100", "given", "step -200 -200 -200", "given"),
                         ["ok", "-100", "-150 all", "-150"])

    def test_zero(self):
        told = answers("voter 3 0 1 1 1 0", "given", "step 0 0 0", "sensor 0")
        self.assertEqual(told, ["ok", "0", "0 all", "good 0"])

    def test_order_of_the_settings(self):
        # many 4, threshold 1, rate 5, misses 2, backs 3, start 7.
        told = answers("voter 4 1 5 2 3 7", "given", "step 20 21 22 19", "sensor 2", "step 20 20 22 20", "sensor 2",
                       "step 20 20 20 20", "step 20 20 20 20", "sensor 2", "step 20 20 20 20", "sensor 2")
        self.assertEqual(told, ["ok", "7", "12 most", "suspect 1", "17 most", "out 0", "20 most", "20 most", "out 2",
                                "20 most", "good 0"])

    def test_many_sensors(self):
        for many in range(3, 10):
            row = "step" + " 5" * many
            self.assertEqual(answers(f"voter {many} 10 50 2 3 5", row, f"sensor {many - 1}", f"sensor {many}"),
                             ["ok", "5 all", "good 0", NO_SENSOR])

    def test_against_a_voter(self):
        for number in range(60):
            chance = random.Random(51000 + number)
            chosen = some_settings(chance)
            start = chance.randint(-100, 100)
            voter = Voter(chosen, start)
            parts = ["voter " + " ".join(str(one) for one in chosen + (start,))]
            expected = ["ok"]
            for values in some_run(chance, chosen[0]):
                given, word = voter.step(values)
                parts.append(as_row(values))
                expected.append(f"{given} {word}")
                place = chance.randrange(chosen[0])
                parts.append(f"sensor {place}")
                expected.append(f"{voter.state(place)} {voter.count(place)}")
            self.assertEqual(answers(*parts, "given"), expected + [str(voter.given())])


class PassedOver(unittest.TestCase):
    def test_nothing_at_all(self):
        self.assertEqual(play(""), [])
        self.assertEqual(play("\n"), [])
        self.assertEqual(play("\n\n  \n    \n \n"), [])

    def test_between_ahead_and_behind(self):
        self.assertEqual(play(f"\n   \n{VOTER}\n\n \ngiven\n     \n\n"), ["ok", "100"])
        self.assertEqual(play(f"{VOTER}\ngiven"), ["ok", "100"])
        self.assertEqual(play(f"{VOTER}\ngiven\n"), ["ok", "100"])

    def test_other_white_signs_are_no_blanks(self):
        for row in ("\t", "\r", " \t ", "\u00a0", "\x0b", "\x0c", "\u2028"):
            self.assertEqual(behind(row), [BAD_ROW])
            self.assertEqual(play(row), [BAD_ROW])

    def test_line_feeds_alone_part_rows(self):
        for sign in ("\r", "\x0b", "\x0c", "\x1c", "\u0085", "\u2028"):
            self.assertEqual(behind(f"given{sign}given"), [BAD_ROW])
        self.assertEqual(behind("given\r\ngiven"), [BAD_ROW, "100"])


class Numbers(unittest.TestCase):
    def test_of_1_figure(self):
        for figure in range(10):
            self.assertEqual(answers(f"voter 3 10 50 2 3 {figure}", "given"), ["ok", str(figure)])

    def test_of_2_to_10_figures(self):
        for word in ("10", "99", "100", "123456789", "1000000000", "1234567890", "9999999999"):
            for sign in ("", "-"):
                self.assertEqual(answers(f"voter 3 10 50 2 3 {sign}{word}", "given"), ["ok", sign + word])

    def test_of_11_figures(self):
        for word in ("10000000000", "-10000000000", "99999999999", "12345678901234567890"):
            self.assertEqual(answers(f"voter 3 10 50 2 3 {word}", VOTER, f"step {word} 1 1", f"sensor {word}"),
                             [BAD_ROW, "ok", BAD_ROW, BAD_ROW])

    def test_no_numbers_in_a_voter(self):
        for word in NO_NUMBERS:
            for place in range(6):
                words = "3 10 50 2 3 100".split(" ")
                words[place] = word
                row = "voter " + " ".join(words)
                self.assertEqual(answers(row), [BAD_ROW], repr(row))
                self.assertEqual(behind(row), [BAD_ROW], repr(row))

    def test_no_numbers_in_a_step(self):
        for word in NO_NUMBERS:
            for place in range(3):
                words = ["100"] * 3
                words[place] = word
                self.assertEqual(behind("step " + " ".join(words), "given"), [BAD_ROW, "100"], repr(word))

    def test_no_numbers_at_a_sensor(self):
        for word in NO_NUMBERS:
            self.assertEqual(behind(f"sensor {word}"), [BAD_ROW], repr(word))

    def test_none_stands_in_a_step_alone(self):
        self.assertEqual(behind("sensor none", "step none 100 none"), [BAD_ROW, "100 single"])
        self.assertEqual(behind("voter 3 10 50 2 3 none", "voter none 10 50 2 3 100"), [BAD_ROW] * 2)

    def test_all_short_words_of_these_signs(self):
        signs = "-+019 n"
        words = [""]
        for length in range(3):
            words += [word + sign for word in words for sign in signs if len(word) == length]
        for word in words:
            if " " not in word:
                is_number = re.fullmatch("0|-?[1-9][0-9]{0,9}", word, re.ASCII)
                expected = [f"{word} single"] if is_number else [BAD_ROW]
                self.assertEqual(answers("voter 3 10 1000 2 3 0", f"step none {word} none")[1:], expected, repr(word))


class WrongRows(unittest.TestCase):
    def test_unknown_words(self):
        for row in ("x", "0", "100", "none", "ok", "Given", "GIVEN", "givens", "voters", "steps", "sensors", "Voter",
                    "run", "given given", "100 given", "sensor", "step", "voter", "-", "refused: BadRow"):
            self.assertEqual(behind(row, "given"), [BAD_ROW, "100"], row)

    def test_voter_with_fewer_or_more_words(self):
        words = "3 10 50 2 3 100 7 8".split(" ")
        for length in range(9):
            row = " ".join(["voter"] + words[:length])
            self.assertEqual(answers(row), ["ok" if length == 6 else BAD_ROW], row)

    def test_step_with_fewer_or_more_words(self):
        for many in (3, 4, 9):
            for word in ("5", "none", str(FAR + 1)):
                for length in range(many * 2):
                    told = answers(f"voter {many} 10 50 2 3 5", "step" + f" {word}" * length)[1]
                    if length == many:
                        self.assertNotEqual(told, BAD_ROW)
                    else:
                        self.assertEqual(told, BAD_ROW)

    def test_given_and_sensor_with_fewer_or_more_words(self):
        self.assertEqual(behind("given 0", "given given", "given none"), [BAD_ROW] * 3)
        self.assertEqual(behind("sensor", "sensor 0 1", "sensor 0 0 0", "sensor 9 9"), [BAD_ROW] * 4)

    def test_one_blank_between_and_none_around(self):
        for row in (" given", "given ", "  given", "sensor  0", "sensor 0 ", "step 1 2  3", " step 1 2 3",
                    "step 1 2 3 ", "step  1 2", "step 1 2 ", "voter 3 10 50 2  3 100", " " + VOTER, VOTER + " ",
                    "sensor "):
            self.assertEqual(behind(row, "given"), [BAD_ROW, "100"], repr(row))
        self.assertEqual(behind("sensor\t0", "step\t1\t2\t3", "given\t"), [BAD_ROW] * 3)

    def test_ahead_of_the_first_voter(self):
        for row in ("given", "sensor 0", "sensor 9", "sensor -1", "step 1 2 3", f"step {FAR + 1} 2 3", "step", "x",
                    "step none none none"):
            self.assertEqual(answers(row), [BAD_ROW], row)
            self.assertEqual(answers(row, VOTER, "given"), [BAD_ROW, "ok", "100"], row)

    def test_a_refused_voter_is_none(self):
        self.assertEqual(answers("voter 2 10 50 2 3 100", "given", "step 1 2", "sensor 0"),
                         [BAD_SETTINGS, BAD_ROW, BAD_ROW, BAD_ROW])

    def test_bad_row_ahead_of_others(self):
        # Each would be refused otherwise too: by its settings, its numbers, its place.
        self.assertEqual(behind("voter 2 10 50 2 3", "voter 2 10 50 2 3 x", "voter 2 10 50 2 3 1 1"), [BAD_ROW] * 3)
        self.assertEqual(behind(f"step {FAR + 1}", f"step {FAR + 1} 1 x", f"step {FAR + 1} 1 1 1"), [BAD_ROW] * 3)
        self.assertEqual(behind("sensor 9 9", "sensor -0"), [BAD_ROW] * 2)


class OtherRefusals(unittest.TestCase):
    def test_settings(self):
        for place, (low, high) in enumerate(BOUNDS):
            for number, told in ((low - 1, BAD_SETTINGS), (low, "ok"), (high, "ok"), (high + 1, BAD_SETTINGS)):
                words = "3 10 50 2 3 100".split(" ")
                words[place] = str(number)
                row = "voter " + " ".join(words)
                self.assertEqual(answers(row), [told], row)

    def test_old_voter_stays(self):
        for settings in ("2 10 50 2 3", "10 10 50 2 3", "3 10 0 2 3", "3 10 50 2 9999999999"):
            row = f"voter {settings} 0"
            self.assertEqual(answers(*STIRRED, row, *LOOK)[len(STIRRED):], [BAD_SETTINGS] + STIRRED_LOOK)

    def test_numbers_in_a_step(self):
        for number in (FAR + 1, -FAR - 1, 9999999999, -9999999999):
            for place in range(3):
                values = [100, None, 100]
                values[place] = number
                self.assertEqual(behind(as_row(values), "given"), [BAD_STEP, "100"])

    def test_numbers_in_a_step_at_their_bounds(self):
        for number in (FAR, -FAR):
            self.assertEqual(answers(f"voter 3 10 50 2 3 {number}", as_row([number] * 3)), ["ok", f"{number} all"])

    def test_places(self):
        for place in (3, -1, -3, 4, 9999999999, -9999999999):
            self.assertEqual(behind(f"sensor {place}", "sensor 2"), [NO_SENSOR, "good 0"])

    def test_what_was_refused_changed_nothing(self):
        refused = (
            ("voter 2 10 50 2 3 0", BAD_SETTINGS), ("voter 3 10 50 2 3", BAD_ROW), ("voter 3 10 50 2 3 x", BAD_ROW),
            ("step 900 900 900 900", BAD_ROW), ("step 900 900 900 900 900 900", BAD_ROW),
            ("step 900 900 900 900 x", BAD_ROW), (f"step 900 900 900 900 {FAR + 1}", BAD_STEP),
            (f"step {-FAR - 1} none none none none", BAD_STEP), ("sensor 5", NO_SENSOR), ("sensor -1", NO_SENSOR),
            ("sensor 01", BAD_ROW), ("given 0", BAD_ROW), ("x", BAD_ROW))
        for row, told in refused:
            self.assertEqual(answers(*STIRRED, row, *LOOK)[len(STIRRED):], [told] + STIRRED_LOOK, row)
        everything = [row for row, told in refused]
        told = [told for row, told in refused]
        goes_on = ["step 100 101 99 900 100", "step 100 100 100 100 100"] + LOOK
        self.assertEqual(answers(*STIRRED, *everything, *goes_on)[len(STIRRED):],
                         told + answers(*STIRRED, *goes_on)[len(STIRRED):])


class Voters(unittest.TestCase):
    def test_a_new_one_in_the_place_of_the_old_one(self):
        told = answers(*STIRRED, "voter 3 10 50 2 3 7", "given", "sensor 0", "sensor 1", "sensor 2", "sensor 3",
                       "step 7 7 7 7 7", "step 7 7 7")
        self.assertEqual(told[len(STIRRED):], ["ok", "7", "good 0", "good 0", "good 0", NO_SENSOR, BAD_ROW, "7 all"])

    def test_the_same_again_is_a_new_one(self):
        told = answers(*STIRRED, STIRRED[0], *LOOK)
        self.assertEqual(told[len(STIRRED):], ["ok", "100"] + ["good 0"] * 5)

    def test_each_play_begins_anew(self):
        self.assertEqual(play(VOTER), ["ok"])
        self.assertEqual(play("given"), [BAD_ROW])

    def test_asked_again_the_same_is_told_and_the_list_is_the_askers_own(self):
        text = rows(*STIRRED, *LOOK)
        told = play(text)
        kept = list(told)
        told.clear()
        self.assertEqual(play(text), kept)

    def test_states_as_a_voter_tells_them(self):
        voter = Voter((5, 10, 7, 2, 3), 100)
        for values in ([100, 100, 100, 100, 900],) * 2 + ([100, 100, 100, 900, 105],):
            voter.step(values)
        self.assertEqual([told.split(" ")[0] for told in STIRRED_LOOK[1:]], states(voter, 5))
        self.assertEqual(answers(*STIRRED, *LOOK)[len(STIRRED):], STIRRED_LOOK)


if __name__ == "__main__":
    unittest.main()
