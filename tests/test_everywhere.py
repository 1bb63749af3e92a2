"""What holds everywhere (points 1 to 3) and the interface, for the modules that are there."""

import ast
import inspect
import pathlib
import subprocess
import sys
import unittest

from panelplace import cards, names

ROOT = pathlib.Path(__file__).resolve().parent.parent

ARGUMENTS = [
    (names.good_couples, ["couples"]),
    (names.good_judges, ["judges"]),
    (cards.whole_card, ["card", "couples"]),
    (cards.mark_on, ["card", "couple"]),
    (cards.without_couple, ["card", "couple"]),
    (cards.one_up, ["card", "couple"]),
]

ASK_ALL = """
from panelplace import cards, names
print(names.good_couples([3, 1, 2]), names.good_couples([3, 1, 3]))
print(names.good_judges(["cleo", "bo"]), names.good_judges(["bo", "bo"]))
print(cards.whole_card([3, 1, 2], [1, 2, 3]), cards.mark_on([3, 1, 2], 1))
print(cards.without_couple([3, 1, 2], 1), cards.one_up([3, 1, 2], 2))
"""

TOLD = "True False\nTrue False\nTrue 2\n[3, 2] [3, 2, 1]\n"


class Interface(unittest.TestCase):
    def test_arguments_are_called_as_told_and_have_no_default(self):
        for function, arguments in ARGUMENTS:
            with self.subTest(function.__name__):
                parameters = inspect.signature(function).parameters
                self.assertEqual(list(parameters), arguments)
                for parameter in parameters.values():
                    self.assertIs(parameter.default, inspect.Parameter.empty)

    def test_the_answers_are_of_the_kinds_told(self):
        self.assertIs(type(names.good_couples([1])), bool)
        self.assertIs(type(names.good_judges(["a"])), bool)
        self.assertIs(type(cards.whole_card([1], [1])), bool)
        self.assertIs(type(cards.mark_on([1], 1)), int)
        self.assertIs(type(cards.without_couple([1, 2], 1)), list)
        self.assertIs(type(cards.one_up([1, 2], 2)), list)


class NothingElseIsUsed(unittest.TestCase):
    def test_no_file_draws_on_anything_outside_the_package(self):
        for path in sorted((ROOT / "panelplace").glob("*.py")):
            for node in ast.walk(ast.parse(path.read_text())):
                self.assertNotIsInstance(node, ast.Import, path.name)
                if isinstance(node, ast.ImportFrom):
                    self.assertTrue(node.module.startswith("panelplace."), path.name)

    def test_the_same_in_a_fresh_run_whatever_the_hashes(self):
        for seed in ("0", "1", "77"):
            run = subprocess.run(
                [sys.executable, "-B", "-c", ASK_ALL], cwd=ROOT, env={"PYTHONHASHSEED": seed},
                capture_output=True, text=True, check=True)
            self.assertEqual(run.stdout, TOLD)
            self.assertEqual(run.stderr, "")

    def test_asked_again_after_other_questions(self):
        for again in range(3):
            self.assertIs(names.good_couples([4, 5]), True)
            self.assertIs(names.good_couples([4, 4]), False)
            self.assertIs(names.good_judges(["a", "b"]), True)
            self.assertIs(names.good_judges(["a", "a"]), False)
            self.assertEqual(cards.one_up([4, 5], 5), [5, 4])
            self.assertEqual(cards.without_couple([4, 5], 5), [4])


class HandedInStays(unittest.TestCase):
    def test_couples_good_or_not(self):
        for couples in ([3, 1, 2], [3, 1, 3], [], [0, 10 ** 30, -1], list(range(300, 0, -1))):
            before = list(couples)
            names.good_couples(couples)
            self.assertEqual(couples, before)

    def test_judges_good_or_not(self):
        for judges in (["cleo", "bo"], ["bo", "bo"], [], ["", "A"], ["b", "a"] * 150):
            before = list(judges)
            names.good_judges(judges)
            self.assertEqual(judges, before)


if __name__ == "__main__":
    unittest.main()
