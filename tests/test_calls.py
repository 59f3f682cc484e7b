"""What holds of every call: its name and arguments, what is handed in, nothing kept, no deep nesting."""

import contextlib
import inspect
import io
import sys
import unittest

from jugglebench import bench
from telling import Fixed, text

INTERFACE = {
    "judge": ["t"],
    "form": ["t"],
    "air": ["k", "t"],
    "after": ["s", "t"],
    "way": ["high", "most", "s", "u"],
    "join": ["high", "most", "t", "u"],
    "orbits": ["t"],
    "swap": ["i", "j", "t"],
    "turn": ["k", "t"],
    "back": ["t"],
    "lift": ["d", "t"],
    "count": ["n", "b", "high"],
    "nth": ["n", "b", "high", "i"],
    "place": ["high", "t"],
    "runs": ["since", "beats", "t"],
    "prime": ["t"],
    "same": ["t", "u"],
}

CALLS = [
    ("judge", [text("24[45]")]),
    ("judge", [text("441441")]),
    ("judge", [text("21")]),
    ("judge", [text("[3")]),
    ("form", [text("24[45]")]),
    ("form", [text("144144")]),
    ("form", [text("[123]")]),
    ("form", [text("21")]),
    ("form", [text("3x")]),
    ("air", [5, text("24[45]")]),
    ("air", [4294967295, text("[fff]")]),
    ("air", [0, text("21")]),
    ("air", [0, []]),
    ("after", [[1, 1, 1], text("531")]),
    ("after", [[2] + [0] * 14, text("[12]1")]),
    ("after", [[4], text("3")]),
    ("after", [[1], text("3x")]),
    ("after", [[1], text("0")]),
    ("after", [[1, 3], text("1")]),
    ("way", [5, 1, [1, 1, 1], [1, 0, 1, 0, 1]]),
    ("way", [4, 2, [1, 1, 1], [0, 1, 1, 1]]),
    ("way", [4, 2, [1, 1, 1], [1, 1, 1]]),
    ("way", [4, 2, [1, 1, 1], [1, 1]]),
    ("join", [5, 1, text("3"), text("51")]),
    ("join", [3, 2, text("[12]"), text("3")]),
    ("join", [3, 1, text("3"), text("3")]),
    ("join", [0, 1, text("3"), text("3")]),
    ("join", [5, 1, text("3"), text("21")]),
    ("orbits", [text("531")]),
    ("orbits", [text("000")]),
    ("orbits", [text("[21]")]),
    ("orbits", [text("21")]),
    ("orbits", [text("3x")]),
    ("swap", [0, 2, text("531")]),
    ("swap", [0, 1, text("40")]),
    ("swap", [0, 1, text("[43]23")]),
    ("swap", [4294967295, 4294967295, text("531")]),
    ("swap", [0, 1, text("ff")]),
    ("swap", [0, 1, text("21")]),
    ("swap", [0, 1, text("[")]),
    ("turn", [0, text("24[45]")]),
    ("turn", [4294967295, text("1[231]2")]),
    ("turn", [1, text("21")]),
    ("turn", [1, text("3x")]),
    ("back", [text("24[45]")]),
    ("back", [text("501")]),
    ("back", [text("21")]),
    ("back", [text("3x")]),
    ("lift", [0, text("24[45]")]),
    ("lift", [1, text("501")]),
    ("lift", [3, text("[22]0[11]")]),
    ("lift", [4294967295, text("501")]),
    ("lift", [1, text("24[45]")]),
    ("lift", [1, text("f")]),
    ("lift", [1, text("21")]),
    ("lift", [1, text("3x")]),
    ("count", [3, 3, 5]),
    ("count", [5, 8, 15]),
    ("count", [5, 8, 7]),
    ("count", [0, 8, 15]),
    ("count", [4294967295, 4294967295, 4294967295]),
    ("nth", [3, 3, 5, 0]),
    ("nth", [5, 8, 15, 7380]),
    ("nth", [5, 8, 15, 7381]),
    ("nth", [0, 3, 5, 0]),
    ("nth", [4294967295, 4294967295, 4294967295, 4294967295]),
    ("place", [5, text("531")]),
    ("place", [15, text("00000")]),
    ("place", [4, text("531")]),
    ("place", [15, text("[21]")]),
    ("place", [4294967295, text("3")]),
    ("place", [15, text("21")]),
    ("place", [15, text("3x")]),
    ("runs", [0, 0, text("531")]),
    ("runs", [0, 40, text("24[45]")]),
    ("runs", [200, 40, text("[321]")]),
    ("runs", [3, 2, text("000")]),
    ("runs", [201, 1, text("3")]),
    ("runs", [4294967295, 4294967295, text("3")]),
    ("runs", [0, 1, text("21")]),
    ("runs", [0, 1, text("3x")]),
    ("prime", [text("24[45]")]),
    ("prime", [text("423423")]),
    ("prime", [text("21")]),
    ("prime", [text("3x")]),
    ("same", [text("24[45]"), text("[54]24")]),
    ("same", [text("531"), text("441")]),
    ("same", [text("3"), text("21")]),
    ("same", [text("3x"), text("21")]),
]

LONG_CALLS = [
    ("judge", [text("[33]" * 16)]),
    ("form", [text("3" * 13 + "423")]),
    ("air", [4294967295, text("[33]" * 16)]),
    ("judge", [text("[" * 64)]),
    ("judge", [text("3" * 64)]),
    ("after", [[2] * 15, text("[ff]" * 16)]),
    ("way", [8, 2, [2, 2, 1], [0, 0, 0, 0, 0, 1, 2, 2]]),
    ("join", [8, 2, text("97531"), text("24[54]")]),
    ("join", [8, 2, text("[22]" * 16), text("4" * 16)]),
    ("orbits", [text("5" * 16)]),
    ("orbits", [text("0" * 16)]),
    ("swap", [0, 14, text("f" + "0" * 14 + "1")]),
    ("turn", [4294967295, text("[33]" * 16)]),
    ("back", [text("[33]" * 16)]),
    ("lift", [12, text("[33]" * 16)]),
    ("lift", [15, text("0" * 16)]),
    ("count", [5, 8, 15]),
    ("nth", [5, 8, 15, 7380]),
    ("place", [15, text("ffa00")]),
    ("runs", [200, 40, text("[33]" * 16)]),
    ("runs", [200, 40, text("[fff]" * 12)]),
    ("prime", [text("[33]" * 16)]),
    ("prime", [text("7730070730075020")]),
    ("same", [text("[33]" * 16), text("3" * 16)]),
]


def copied(arguments, kind):
    return [kind(argument) if isinstance(argument, list) else argument for argument in arguments]


def answer_of(name, arguments):
    return getattr(bench, name)(*arguments)


class CallsTest(unittest.TestCase):
    def test_names_and_arguments(self):
        for name, parameters in INTERFACE.items():
            signature = inspect.signature(getattr(bench, name))
            self.assertEqual(list(signature.parameters), parameters)

    def test_nothing_is_left_to_be_handed_in_otherwise(self):
        for name in INTERFACE:
            for parameter in inspect.signature(getattr(bench, name)).parameters.values():
                self.assertEqual(parameter.kind, parameter.POSITIONAL_OR_KEYWORD)
                self.assertIs(parameter.default, parameter.empty)

    def test_all_seventeen_are_there(self):
        self.assertEqual(len(INTERFACE), 17)
        self.assertEqual([name for name in INTERFACE if not callable(getattr(bench, name, None))], [])

    def test_by_the_names_of_their_arguments(self):
        for name, arguments in CALLS:
            named = dict(zip(INTERFACE[name], arguments))
            self.assertEqual(getattr(bench, name)(**named), answer_of(name, arguments))

    def test_every_call_is_tried(self):
        self.assertEqual({name for name, arguments in CALLS}, set(INTERFACE))

    def test_a_list_of_whole_numbers_is_given_back(self):
        for name, arguments in CALLS:
            answer = answer_of(name, arguments)
            self.assertIs(type(answer), list)
            self.assertEqual({type(number) for number in answer}, {int})

    def test_what_is_handed_in_is_as_it_was(self):
        for name, arguments in CALLS:
            handed = copied(arguments, list)
            answer_of(name, handed)
            self.assertEqual(handed, arguments)

    def test_what_is_handed_in_is_not_changed_for_a_while_either(self):
        for name, arguments in CALLS:
            self.assertEqual(answer_of(name, copied(arguments, Fixed)), answer_of(name, arguments))

    def test_what_is_given_back_is_not_what_was_handed_in(self):
        for name, arguments in CALLS:
            answer = answer_of(name, arguments)
            self.assertFalse(any(answer is argument for argument in arguments))

    def test_the_same_list_handed_in_twice(self):
        handed = Fixed(text("24[45]"))
        self.assertEqual(bench.same(handed, handed), [1])
        self.assertEqual(bench.join(8, 2, handed, handed), [0, 0])
        numbers = Fixed([1, 1, 1])
        self.assertEqual(bench.way(8, 2, numbers, numbers), [0])

    def test_nothing_is_printed(self):
        printed = io.StringIO()
        with contextlib.redirect_stdout(printed), contextlib.redirect_stderr(printed):
            for name, arguments in CALLS:
                answer_of(name, arguments)
        self.assertEqual(printed.getvalue(), "")

    def test_a_second_call_answers_as_the_first_did(self):
        first = [answer_of(name, arguments) for name, arguments in CALLS]
        kept = [list(answer) for answer in first]
        for answer in first:
            answer.clear()
        backwards = [answer_of(name, arguments) for name, arguments in reversed(CALLS)]
        self.assertEqual(backwards[::-1], kept)

    def test_no_deep_nesting(self):
        limit = sys.getrecursionlimit()
        depth = len(inspect.stack())
        wanted = [answer_of(name, arguments) for name, arguments in LONG_CALLS]
        sys.setrecursionlimit(depth + 40)
        try:
            answers = [answer_of(name, arguments) for name, arguments in LONG_CALLS]
        finally:
            sys.setrecursionlimit(limit)
        self.assertEqual(answers, wanted)


if __name__ == "__main__":
    unittest.main()
