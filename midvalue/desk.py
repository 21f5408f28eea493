"""The desk: a voter that is made, stepped and asked by the rows of a text."""

from midvalue.errors import BadRow, BadSettings, BadStep, NoSensor
from midvalue.voters import Voter

# Not isdigit: that takes the figures of other scripts too.
FIGURES = "0123456789"
MOST_FIGURES = 10


def play(text):
    desk = Desk()
    return [answer(desk, row) for row in text.split("\n") if row.strip(" ") != ""]


def answer(desk, row):
    try:
        return desk.do_row(row.split(" "))
    except BadSettings:
        return "refused: BadSettings"
    except BadStep:
        return "refused: BadStep"
    except NoSensor:
        return "refused: NoSensor"
    except BadRow:
        return "refused: BadRow"


def is_number(word):
    figures = word[1:] if word.startswith("-") else word
    if len(figures) < 1 or len(figures) > MOST_FIGURES:
        return False
    if not all([sign in FIGURES for sign in figures]):
        return False
    return word == "0" or figures[0] != "0"


def number_of(word):
    if not is_number(word):
        raise BadRow("a number is 1 to 10 figures, the first not 0 unless alone")
    return int(word)


def thing_of(word):
    return None if word == "none" else number_of(word)


class Desk:
    def __init__(self):
        self.voter = None

    def do_row(self, words):
        if words[0] == "voter" and len(words) == 7:
            return self.do_voter([number_of(word) for word in words[1:]])
        if self.voter is None:
            raise BadRow("there is no voter yet")
        if words[0] == "step" and len(words) == self.voter.many + 1:
            return self.do_step([thing_of(word) for word in words[1:]])
        if words[0] == "given" and len(words) == 1:
            return str(self.voter.given())
        if words[0] == "sensor" and len(words) == 2:
            return self.do_sensor(number_of(words[1]))
        raise BadRow("a row is voter, step, given or sensor, each with as many words as it asks for")

    def do_voter(self, numbers):
        self.voter = Voter(tuple(numbers[:5]), numbers[5])
        return "ok"

    def do_step(self, values):
        pair = self.voter.step(values)
        given = pair[0]
        word = pair[1]
        return f"{given} {word}"

    def do_sensor(self, place):
        state = self.voter.state(place)
        count = self.voter.count(place)
        return f"{state} {count}"
