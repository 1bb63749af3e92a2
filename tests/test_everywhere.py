"""What holds everywhere (points 1 to 3) and the interface, over the whole program."""

import ast
import inspect
import pathlib
import subprocess
import sys
import unittest

from helper import only, refusal_of, sheet_of
from panelplace import asking, cards, desk, names, order, parting, reading, sheet, table, tally

ROOT = pathlib.Path(__file__).resolve().parent.parent

ARGUMENTS = [
    (names.good_couples, ["couples"]),
    (names.good_judges, ["judges"]),
    (cards.whole_card, ["card", "couples"]),
    (cards.mark_on, ["card", "couple"]),
    (cards.without_couple, ["card", "couple"]),
    (cards.one_up, ["card", "couple"]),
    (tally.majority_of, ["many"]),
    (tally.marks_of, ["cards", "couple"]),
    (tally.granted, ["marks", "number"]),
    (tally.granted_sum, ["marks", "number"]),
    (tally.first_number, ["marks"]),
    (tally.ladder_of, ["marks", "last"]),
    (order.is_ahead, ["one", "other"]),
    (order.places_of, ["cards", "couples"]),
    (order.ranking_of, ["cards", "couples"]),
    (parting.parting_of, ["one", "other"]),
    (parting.partings_of, ["cards", "couples"]),
    (sheet.Sheet, ["couples", "judges"]),
    (sheet.Sheet.hand_in, ["self", "judge", "card"]),
    (sheet.Sheet.strike, ["self", "couple"]),
    (sheet.Sheet.seal, ["self"]),
    (sheet.Sheet.couples, ["self"]),
    (sheet.Sheet.struck, ["self"]),
    (sheet.Sheet.judges, ["self"]),
    (sheet.Sheet.handed, ["self"]),
    (sheet.Sheet.cards, ["self"]),
    (sheet.Sheet.card_of, ["self", "judge"]),
    (sheet.Sheet.taken, ["self"]),
    (sheet.Sheet.is_sealed, ["self"]),
    (asking.places, ["sheet"]),
    (asking.ranking, ["sheet"]),
    (asking.firsts, ["sheet"]),
    (asking.partings, ["sheet"]),
    (asking.left_out, ["sheet", "judge"]),
    (asking.deciders, ["sheet"]),
    (asking.step_up, ["sheet", "judge", "couple"]),
    (table.table_row, ["sheet", "couple"]),
    (table.table, ["sheet"]),
    (reading.read_row, ["row"]),
    (desk.answer, ["sheet", "row"]),
    (desk.answers, ["couples", "judges", "rows"]),
]

ASK_ALL = """
from panelplace import asking, cards, desk, names, order, parting, reading, sheet, table, tally
print(names.good_couples([3, 1, 2]), names.good_couples([3, 1, 3]))
print(names.good_judges(["cleo", "bo"]), names.good_judges(["bo", "bo"]))
print(cards.whole_card([3, 1, 2], [1, 2, 3]), cards.mark_on([3, 1, 2], 1))
print(cards.without_couple([3, 1, 2], 1), cards.one_up([3, 1, 2], 2))
three = [[3, 1, 2], [1, 3, 2], [3, 2, 1]]
print(tally.majority_of(3), tally.marks_of(three, 1), tally.granted([2, 1, 3], 2), tally.granted_sum([2, 1, 3], 2))
print(tally.first_number([2, 1, 3]), tally.ladder_of([2, 1, 3], 2))
print(order.is_ahead([1, 2, 1], [2, 1, 3]), order.places_of(three, [1, 2, 3]), order.ranking_of(three, [1, 2, 3]))
print(parting.parting_of([1, 2, 1], [2, 1, 3]), parting.partings_of(three, [1, 2, 3]))
one = sheet.Sheet([3, 1, 2], ["cleo", "bo", "anna"])
one.hand_in("anna", [3, 1, 2])
one.hand_in("cleo", [1, 2, 3])
one.strike(1)
print(one.couples(), one.struck(), one.judges(), one.handed(), one.cards(), one.card_of("anna"), one.taken())
print(asking.places(one), asking.ranking(one), asking.firsts(one), asking.partings(one))
print(asking.left_out(one, "cleo"), asking.deciders(one), asking.step_up(one, "anna", 2))
print(table.table_row(one, 2), table.table(one))
print(reading.read_row("step anna 2"), desk.answer(one, "step anna 2"), desk.answer(one, "deciders"))
one.seal()
print(one.is_sealed(), desk.answers([3, 1], ["bo"], ["card bo 3 1", "places", "seal", "strike 3"]))
"""

TOLD = """True False
True False
True 2
[3, 2] [3, 2, 1]
2 [2, 1, 3] 2 3
2 [(1, 1), (2, 3)]
True [2, 3, 1] [(1, 3), (2, 1), (3, 2)]
(1, 'half') [(3, 1, 1, 'half'), (1, 2, 2, 'half')]
[3, 2] [1] ['cleo', 'bo', 'anna'] ['cleo', 'anna'] [[2, 3], [3, 2]] [3, 2] 2
[1, 1] [(1, 3), (1, 2)] [3, 2] []
[1, 2] ['cleo', 'anna'] (3, [2, 1])
1 2 | 1 2 | 1/1 2/3 ['1 3 | 2 1 | 1/1 2/3', '1 2 | 1 2 | 1/1 2/3']
('step', 'anna', [2]) 3 | 1:2 2:3 cleo anna
True ['taken', '1:3 2:1', 'sealed', 'refused: sealed']
"""


class Interface(unittest.TestCase):
    def test_arguments_are_called_as_told_and_have_no_default(self):
        for function, arguments in ARGUMENTS:
            with self.subTest(function.__name__):
                parameters = inspect.signature(function).parameters
                self.assertEqual(list(parameters), arguments)
                for parameter in parameters.values():
                    self.assertIs(parameter.default, inspect.Parameter.empty)

    def test_the_answers_are_of_the_kinds_told(self):
        self.assertIs(type(names.good_couples([1])), bool)
        self.assertIs(type(names.good_judges(["a"])), bool)
        self.assertIs(type(cards.whole_card([1], [1])), bool)
        self.assertIs(type(cards.mark_on([1], 1)), int)
        self.assertIs(type(cards.without_couple([1, 2], 1)), list)
        self.assertIs(type(cards.one_up([1, 2], 2)), list)

    def test_the_counts_and_the_order_are_of_the_kinds_told(self):
        for number in (tally.majority_of(3), tally.granted([], 2), tally.granted([1], 2), tally.granted_sum([], 2),
                       tally.granted_sum([1], 2), tally.first_number([1]), order.places_of([[5]], [5])[0]):
            self.assertIs(type(number), int)
        two = [[5, 6]]
        for rows in (tally.ladder_of([1], 2), order.ranking_of(two, [5, 6]), parting.partings_of(two, [5, 6])):
            self.assertIs(type(rows), list)
            for row in rows:
                self.assertIs(type(row), tuple)
        for answer in (tally.marks_of([], 5), tally.ladder_of([], 0), order.places_of(two, [5, 6])):
            self.assertIs(type(answer), list)
        self.assertIs(type(order.is_ahead([1], [2])), bool)
        self.assertIs(type(order.is_ahead([1], [1])), bool)

    def test_the_answers_of_a_sheet_are_of_the_kinds_told(self):
        one = sheet_of([5, 6], [[5, 6], [6, 5], [6, 5]])
        for numbers in (asking.places(one), asking.firsts(one), asking.left_out(one, "jb"),
                        asking.step_up(one, "ja", 6)[1]):
            self.assertIs(type(numbers), list)
            self.assertEqual({type(number) for number in numbers}, {int})
        for rows in (asking.ranking(one), asking.partings(one)):
            self.assertIs(type(rows), list)
            self.assertEqual({type(row) for row in rows}, {tuple})
        self.assertIs(type(asking.deciders(one)), list)
        self.assertEqual({type(judge) for judge in asking.deciders(one)}, {str})
        self.assertIs(type(asking.step_up(one, "ja", 6)), tuple)
        self.assertIs(type(asking.step_up(one, "ja", 6)[0]), int)


class NothingElseIsUsed(unittest.TestCase):
    def test_no_file_draws_on_anything_outside_the_package(self):
        for path in sorted((ROOT / "panelplace").glob("*.py")):
            for node in ast.walk(ast.parse(path.read_text())):
                self.assertNotIsInstance(node, ast.Import, path.name)
                if isinstance(node, ast.ImportFrom):
                    self.assertTrue(node.module.startswith("panelplace."), path.name)

    def test_the_same_in_a_fresh_run_whatever_the_hashes(self):
        for seed in ("0", "1", "77"):
            run = subprocess.run(
                [sys.executable, "-B", "-c", ASK_ALL], cwd=ROOT, env={"PYTHONHASHSEED": seed},
                capture_output=True, text=True, check=True)
            self.assertEqual(run.stdout, TOLD)
            self.assertEqual(run.stderr, "")

    def test_asked_again_after_other_questions(self):
        for again in range(3):
            self.assertIs(names.good_couples([4, 5]), True)
            self.assertIs(names.good_couples([4, 4]), False)
            self.assertIs(names.good_judges(["a", "b"]), True)
            self.assertIs(names.good_judges(["a", "a"]), False)
            self.assertEqual(cards.one_up([4, 5], 5), [5, 4])
            self.assertEqual(cards.without_couple([4, 5], 5), [4])
            self.assertEqual(tally.ladder_of([2, 1], 2), [(1, 1), (2, 3)])
            self.assertEqual(order.ranking_of([[4, 5]], [5, 4]), [(1, 4), (2, 5)])
            self.assertEqual(parting.partings_of([[4, 5]], [5, 4]), [(4, 5, 1, "half")])
            self.assertEqual(sheet.Sheet([4, 5], ["a"]).taken(), 0)
            self.assertEqual(reading.read_row("card a 4 5"), ("card", "a", [4, 5]))
            self.assertEqual(
                desk.answers([4, 5], ["a"], ["card a 5 4", "seal", "places"]), ["taken", "sealed", "1:5 2:4"])


class NumbersOfAnySize(unittest.TestCase):
    """Python refuses to write out a number of some thousand figures, so no error may try to."""

    def test_a_refusal_is_of_the_class_told_whatever_the_number(self):
        one = sheet.Sheet([4, 5], ["bo"])
        for number in (10 ** 5000, -(10 ** 5000), 10 ** 30, 0, -1):
            self.assertEqual(refusal_of(sheet.Sheet, [number], ["bo"]), only("BadCouples"))
            self.assertEqual(refusal_of(one.hand_in, "bo", [4, number]), only("BadCard"))
            self.assertEqual(refusal_of(one.strike, number), only("UnknownCouple"))

    def test_a_question_is_refused_by_the_class_told_whatever_the_number(self):
        none, one = sheet.Sheet([4, 5], ["ja"]), sheet_of([4, 5], [[5, 4]])
        for number in (10 ** 5000, -(10 ** 5000), 10 ** 30, 1000, 0, -1):
            self.assertEqual(refusal_of(asking.step_up, one, "ja", number), only("UnknownCouple"))
            self.assertEqual(refusal_of(asking.step_up, none, "ja", number), only("NoCard"))
            self.assertEqual(refusal_of(table.table_row, one, number), only("UnknownCouple"))
            self.assertEqual(refusal_of(table.table_row, none, number), only("TooFewCards"))
            self.assertEqual(refusal_of(desk.answers, [number], ["ja"], ["seal"]), only("BadCouples"))


class HandedInStays(unittest.TestCase):
    def test_couples_good_or_not(self):
        for couples in ([3, 1, 2], [3, 1, 3], [], [0, 10 ** 30, -1], list(range(300, 0, -1))):
            before = list(couples)
            names.good_couples(couples)
            self.assertEqual(couples, before)

    def test_judges_good_or_not(self):
        for judges in (["cleo", "bo"], ["bo", "bo"], [], ["", "A"], ["b", "a"] * 150):
            before = list(judges)
            names.good_judges(judges)
            self.assertEqual(judges, before)


if __name__ == "__main__":
    unittest.main()
