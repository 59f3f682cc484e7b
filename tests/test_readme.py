"""The examples in README.md answer what stands behind them."""

import os
import re
import unittest

from jugglebench import bench

README = os.path.join(os.path.dirname(os.path.dirname(os.path.abspath(__file__))), "README.md")


def examples():
    with open(README, encoding="utf-8") as file:
        return re.findall(r"^(\w+\(.*\)) +# \[(.*?)\]:", file.read(), re.MULTILINE)


class ReadmeTest(unittest.TestCase):
    def test_examples(self):
        for call, answer in examples():
            numbers = [int(number) for number in answer.replace(", ...", "").split(", ")]
            given = eval(call, dict(vars(bench)))
            self.assertEqual(given[:len(numbers)] if "..." in answer else given, numbers, call)

    def test_every_call_has_an_example(self):
        called = {call.partition("(")[0] for call, answer in examples()}
        with open(README, encoding="utf-8") as file:
            table = re.findall(r"^\| `(\w+)\(", file.read(), re.MULTILINE)
        self.assertEqual(called, set(table))


if __name__ == "__main__":
    unittest.main()
