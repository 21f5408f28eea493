"""The interface: each name is there, with its arguments, in the file that the document tells; [1] over all of it."""

import importlib
import inspect
import unittest

FUNCTIONS = {
    "midvalue.values": {
        "middle": ["numbers", "near"], "moved": ["one", "goal", "most"], "agree": ["numbers", "value", "threshold"]},
    "midvalue.runs": {"run": ["settings", "start", "steps"], "outs": ["settings", "start", "steps"]},
    "midvalue.liars": {"farthest": ["rights", "others"], "worst": ["rights", "others", "is_great"]},
    "midvalue.desk": {"play": ["text"]},
}
METHODS = {
    "__init__": ["self", "settings", "start"], "step": ["self", "values"], "given": ["self"],
    "state": ["self", "place"], "count": ["self", "place"]}
ERRORS = ("VoteError", "BadSettings", "BadStep", "NoSensor", "BadRow")


def arguments(asked):
    return list(inspect.signature(asked).parameters)


class Interface(unittest.TestCase):
    def test_functions(self):
        for file, functions in FUNCTIONS.items():
            for name, expected in functions.items():
                self.assertEqual(arguments(getattr(importlib.import_module(file), name)), expected, (file, name))

    def test_voter(self):
        voter = importlib.import_module("midvalue.voters").Voter
        self.assertTrue(inspect.isclass(voter))
        for name, expected in METHODS.items():
            self.assertEqual(arguments(getattr(voter, name)), expected, name)

    def test_errors(self):
        errors = importlib.import_module("midvalue.errors")
        for name in ERRORS:
            self.assertTrue(inspect.isclass(getattr(errors, name)), name)

    def test_the_very_classes_are_raised(self):
        errors = importlib.import_module("midvalue.errors")
        runs = importlib.import_module("midvalue.runs")
        liars = importlib.import_module("midvalue.liars")
        for name, asked, things in (
                ("BadSettings", runs.run, ((), 0, [])), ("BadSettings", runs.outs, ((), 0, [])),
                ("BadStep", runs.run, ((3, 0, 1, 1, 1), 0, [[]])), ("BadStep", runs.outs, ((3, 0, 1, 1, 1), 0, [[]])),
                ("BadStep", liars.farthest, ([1], 1)), ("BadStep", liars.worst, ([1], 1, True))):
            with self.assertRaises(ValueError) as caught:
                asked(*things)
            self.assertIs(caught.exception.__class__, getattr(errors, name))


class Kinds(unittest.TestCase):
    """What is told is of Python's own plain kinds, so True and False are no numbers in it."""

    def test_whole_numbers(self):
        values = importlib.import_module("midvalue.values")
        voter = importlib.import_module("midvalue.voters").Voter((3, 10, 50, 2, 3), 0)
        pair = voter.step([1, 1, 900])
        for told in (values.middle([1, 2], 0), values.moved(1, 2, 0), pair[0], voter.given(), voter.count(2)):
            self.assertIs(told.__class__, int)
        self.assertIs(voter.state(0).__class__, str)

    def test_lists_pairs_and_texts(self):
        runs = importlib.import_module("midvalue.runs")
        liars = importlib.import_module("midvalue.liars")
        desk = importlib.import_module("midvalue.desk")
        chosen, steps = (3, 10, 50, 1, 1), [[1, 1, 900]]
        self.assertIs(runs.run(chosen, 0, steps).__class__, list)
        step, place, is_out = runs.outs(chosen, 0, steps)[0]
        self.assertEqual((step.__class__, place.__class__, is_out.__class__), (int, int, bool))
        self.assertIs(liars.farthest([1, 2], 1).__class__, tuple)
        self.assertIs(liars.worst([1, 2], 1, True).__class__, list)
        self.assertEqual([told.__class__ for told in desk.play("given\nx")], [str, str])


if __name__ == "__main__":
    unittest.main()
