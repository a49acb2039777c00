"""What the document promises over the whole program, of each of the six functions."""

import contextlib
import inspect
import io
import unittest

from movesthatend import groups as program
from tests.helper import HIGHEST, Untouchable, drawn_inputs

ARGUMENTS = {
    "step": ["n", "w", "worth", "groups"],
    "run": ["n", "w", "worth", "groups"],
    "list_of": ["n", "w", "m", "worth", "groups"],
    "even": ["n", "worth"],
    "total": ["n", "worth", "groups"],
    "all_of": ["n", "w", "worth", "groups"],
}


def call(name, told):
    """Ask the function of that name, with those of the told values that it takes."""
    return getattr(program, name)(*[told[argument] for argument in ARGUMENTS[name]])


def right_inputs():
    for n in range(1, 6):
        for w, worth, groups in drawn_inputs(n, 12, 7000 + n, span=6):
            for m in (0, 1, 60):
                yield {"n": n, "w": w, "m": m, "worth": worth, "groups": groups}


def wrong_inputs():
    """Values that are right but for one, and which one that is; then all of them wrong at once."""
    right = {"n": 2, "w": 0, "m": 60, "worth": [0, 1, -1, 0], "groups": [1, 0]}
    for argument, values in (
        ("n", (0, 1, 3, 6, HIGHEST)),
        ("w", (3, HIGHEST)),
        ("m", (61, HIGHEST)),
        ("worth", ([], [0, 1, -1], [0, 1, -1, 0, 0], [0, 21, -1, 0], [0, 1, -21, 0], [21, 1, -1, 0], [0] * 27)),
        ("groups", ([], [0], [0, 1, 0], [0, 2], [2, 1], [HIGHEST, 0], [0] * 7)),
    ):
        for value in values:
            yield argument, {**right, argument: value}
    for argument in right:
        yield argument, {"n": 6, "w": 3, "m": 61, "worth": [21] * 27, "groups": [6] * 7}
        yield argument, {"n": 0, "w": HIGHEST, "m": HIGHEST, "worth": [], "groups": []}


def all_inputs():
    return list(right_inputs()) + [told for ignored, told in wrong_inputs()]


class TheSixFunctions(unittest.TestCase):

    def test_their_names_and_arguments(self):
        for name, arguments in ARGUMENTS.items():
            parameters = inspect.signature(getattr(program, name)).parameters
            self.assertEqual(list(parameters), arguments)
            for parameter in parameters.values():
                self.assertIs(parameter.default, inspect.Parameter.empty)

    def test_what_is_handed_in_is_as_it_was(self):
        for told in all_inputs():
            for name in ARGUMENTS:
                worth = Untouchable(told["worth"])
                groups = Untouchable(told["groups"])
                call(name, {**told, "worth": worth, "groups": groups})
                self.assertEqual((list(worth), list(groups)), (told["worth"], told["groups"]))

    def test_the_same_call_asked_twice_answers_the_same(self):
        for told in all_inputs():
            for name in ARGUMENTS:
                first = call(name, told)
                kept = list(first)
                first[0] = 99
                first.append(99)
                self.assertEqual(call(name, told), kept, (name, told))

    def test_it_is_as_if_for_the_first_time_whatever_was_asked_ahead(self):
        asked = [(name, told) for told in all_inputs() for name in ARGUMENTS]
        answers = [call(name, told) for name, told in asked]
        backwards = [call(name, told) for name, told in reversed(asked)]
        self.assertEqual(backwards[::-1], answers)

    def test_nothing_is_kept_in_the_module(self):
        ahead = {name: repr(value) for name, value in vars(program).items() if name != "__builtins__"}
        for told in all_inputs():
            for name in ARGUMENTS:
                call(name, told)
        behind = {name: repr(value) for name, value in vars(program).items() if name != "__builtins__"}
        self.assertEqual(behind, ahead)

    def test_nothing_is_printed(self):
        printed = io.StringIO()
        with contextlib.redirect_stdout(printed), contextlib.redirect_stderr(printed):
            for told in all_inputs():
                for name in ARGUMENTS:
                    call(name, told)
        self.assertEqual(printed.getvalue(), "")

    def test_answers_are_lists_of_whole_numbers(self):
        for told in all_inputs():
            for name in ARGUMENTS:
                answer = call(name, told)
                self.assertIs(type(answer), list)
                self.assertEqual({type(number) for number in answer}, {int})

    def test_a_refusal_is_its_number_alone(self):
        for argument, told in wrong_inputs():
            for name in ARGUMENTS:
                if argument in ARGUMENTS[name]:
                    self.assertEqual(call(name, told), [-22], (name, told))

    def test_who_takes_no_such_value_does_not_refuse_it(self):
        right = {"n": 2, "w": 0, "m": 60, "worth": [0, 1, -1, 0], "groups": [1, 0]}
        for argument, value in (("w", 3), ("m", 61), ("groups", [2])):
            for name in ARGUMENTS:
                if argument not in ARGUMENTS[name]:
                    self.assertEqual(call(name, {**right, argument: value}), call(name, right))
                    self.assertNotEqual(call(name, right), [-22])

    def test_nobody_may_go_is_told_only_where_nothing_else_is_refused(self):
        at_rest = {"n": 2, "w": 0, "m": 60, "worth": [0, 1, 1, 0], "groups": [0, 0]}
        self.assertEqual(call("step", at_rest), [-6])
        for argument, value in (("n", 3), ("w", 3), ("worth", [0, 1, 1, 21]), ("groups", [0, 0, 0])):
            self.assertEqual(call("step", {**at_rest, argument: value}), [-22])

    def test_how_long_answers_are_and_that_no_other_number_is_below_0(self):
        for told in right_inputs():
            n = told["n"]
            answers = {name: call(name, told) for name in ARGUMENTS}
            self.assertEqual(len(answers["step"]), 1 if answers["step"] == [-6] else n + 2)
            self.assertEqual(len(answers["run"]), n + 2)
            self.assertEqual(len(answers["list_of"]), 1 + 2 * answers["list_of"][0])
            self.assertEqual([len(answers[name]) for name in ("even", "total", "all_of")], [1, 2, 3])
            for name, answer in answers.items():
                if answer != [-6]:
                    self.assertGreaterEqual(min(answer[:1] if name == "total" else answer), 0)


class WhatHolds(unittest.TestCase):
    """a to d, as far as the functions tell it of one another."""

    def test_of_all_inputs_that_are_right(self):
        for told in right_inputs():
            n = told["n"]
            made, ended = call("run", told)[:2]
            ways, rests, goes_round = call("all_of", told)
            if call("even", told) == [1] or told["w"] == 2:
                self.assertEqual((ended, rests, goes_round), (1, 1, 0))
            self.assertEqual(rests if ended else goes_round, 1)
            self.assertLessEqual(made, ways)
            answer = call("step", told)
            self.assertEqual(answer == [-6], (ways, rests, goes_round) == (1, 1, 0))
            if answer != [-6]:
                behind = {**told, "groups": answer[2:]}
                self.assertEqual(len(behind["groups"]), n)
                self.assertLessEqual(call("all_of", behind)[0], ways)
                if call("even", told) == [1]:
                    self.assertGreater(call("total", behind)[1], call("total", told)[1])
                    self.assertLess(call("all_of", behind)[0], ways)


if __name__ == "__main__":
    unittest.main()
