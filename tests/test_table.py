"""panelplace.table: the row of a couple and the table (point 33)."""

import unittest

from helper import COUPLES, PANEL, counted, marks_by_hand, mixed, mixed_cards, only, places_by_hand, refusal_of
from helper import sheet_of, told, with_three
from panelplace.sheet import Sheet
from panelplace.table import table, table_row

TABLE = [
    "1 17 | 3 1 2 | 1/1 2/3 3/6 3/6",
    "2 9 | 4 2 1 | 1/1 2/3 2/3 3/7",
    "3 4 | 1 3 4 | 1/1 1/1 2/4 3/8",
    "4 230 | 2 4 3 | 0/0 1/2 2/5 3/9",
]
HUGE = 10 ** 5000
NO_COUPLES = [0, -1, 1, 18, 999, 1000, -17, 10 ** 30, -(10 ** 30), HUGE, -HUGE]


def row_by_hand(place, couple, cards, many):
    marks = marks_by_hand(cards, couple)
    text = str(place) + " " + str(couple) + " |"
    for mark in marks:
        text += " " + str(mark)
    text += " |"
    for number in range(1, many + 1):
        text += " %d/%d" % counted(marks, number)
    return text


def table_by_hand(cards, couples):
    rows = sorted([(place, k) for k, place in enumerate(places_by_hand(cards, couples))])
    return [row_by_hand(place, couples[k], cards, len(couples)) for place, k in rows]


class TableTest(unittest.TestCase):
    def check_table(self, sheet, rows):
        self.assertEqual(table(sheet), rows)
        for row in rows:
            self.assertEqual(table_row(sheet, int(row.split(" ")[1])), row)

    def check_refused(self, sheet, name, ask, *handed_in):
        before = told(sheet)
        self.assertEqual(refusal_of(ask, sheet, *handed_in), only(name))
        self.assertEqual(told(sheet), before)


class Rows(TableTest):
    def test_sign_by_sign(self):
        self.check_table(with_three(), TABLE)

    def test_the_row_that_the_point_shows(self):
        # Couple 17 has 3 on the first card, 1 on the second and 2 on the third.
        self.check_table(sheet_of([17, 5, 8], [[5, 8, 17], [17, 5, 8], [5, 17, 8]]), [
            "1 5 | 1 2 1 | 2/2 3/4 3/4", "2 17 | 3 1 2 | 1/1 2/3 3/6", "3 8 | 2 3 3 | 0/0 1/2 3/8"])

    def test_one_couple_and_one_card(self):
        self.check_table(sheet_of([7], [[7]]), ["1 7 | 1 | 1/1"])

    def test_one_couple_and_most_cards(self):
        self.check_table(sheet_of([999], [[999]] * 15), ["1 999 |" + " 1" * 15 + " | 15/15"])

    def test_most_couples_and_one_card(self):
        couples = list(range(976, 1000))
        rows = ["%d %d | %d |" % (k, couple, k) + " 0/0" * (k - 1) + (" 1/%d" % k) * (25 - k)
                for k, couple in enumerate(couples, start=1)]
        self.check_table(sheet_of(mixed(couples, 3), [couples]), rows)

    def test_most_couples_and_cards_all_the_same(self):
        couples = list(range(24, 0, -1))
        rows = ["%d %d |" % (k, couple) + (" %d" % k) * 15 + " |" + " 0/0" * (k - 1) + (" 15/%d" % (15 * k)) * (25 - k)
                for k, couple in enumerate(couples, start=1)]
        self.check_table(sheet_of(mixed(couples, 5), [couples] * 15), rows)

    def test_up_to_most(self):
        for many, judges in ((2, 1), (3, 2), (6, 5), (12, 15), (24, 15)):
            for turn in range(4):
                couples = mixed(list(range(999, 999 - many, -1)), turn)
                cards = mixed_cards(couples, judges, turn)
                self.check_table(sheet_of(couples, cards), table_by_hand(cards, couples))

    def test_marks_in_the_order_of_the_judges_whose_cards_are_in(self):
        sheet = Sheet([5, 6, 8], ["zoe", "mia", "abe", "kim"])
        sheet.hand_in("kim", [8, 5, 6])
        sheet.hand_in("zoe", [5, 6, 8])
        sheet.hand_in("abe", [5, 8, 6])
        self.check_table(sheet, ["1 5 | 1 1 2 | 2/2 3/4 3/4", "2 8 | 3 2 1 | 1/1 2/3 3/6", "3 6 | 2 3 3 | 0/0 1/2 3/8"])

    def test_shared_places_in_the_order_of_the_couples_that_stand(self):
        rows = {9: "1 9 | 1 1 | 2/2 2/2 2/2 2/2", 30: "2 30 | 2 3 | 0/0 1/2 2/5 2/5",
                4: "2 4 | 3 2 | 0/0 1/2 2/5 2/5", 7: "4 7 | 4 4 | 0/0 0/0 0/0 2/8"}
        cards = [[9, 30, 4, 7], [9, 4, 30, 7]]
        self.check_table(sheet_of([7, 4, 30, 9], cards), [rows[9], rows[4], rows[30], rows[7]])
        self.check_table(sheet_of([30, 9, 7, 4], cards), [rows[9], rows[30], rows[4], rows[7]])

    def test_after_a_striking(self):
        sheet = with_three()
        sheet.strike(17)
        rows = ["1 9 | 3 1 1 | 2/2 2/2 3/5", "2 4 | 1 2 3 | 1/1 2/3 3/6", "3 230 | 2 3 2 | 0/0 2/4 3/7"]
        self.check_table(sheet, rows)
        sheet.seal()
        self.check_table(sheet, rows)

    def test_on_a_sealed_sheet(self):
        sheet = with_three()
        sheet.seal()
        self.check_table(sheet, TABLE)


class Refusals(TableTest):
    def test_no_card_in(self):
        shut = Sheet(COUPLES, PANEL)
        shut.seal()
        for sheet in (Sheet(COUPLES, PANEL), shut):
            self.check_refused(sheet, "TooFewCards", table)
            for couple in COUPLES:
                self.check_refused(sheet, "TooFewCards", table_row, couple)

    def test_a_couple_that_does_not_stand(self):
        sheet = with_three()
        for couple in NO_COUPLES:
            self.check_refused(sheet, "UnknownCouple", table_row, couple)
        for couple in (230, 17):
            sheet.strike(couple)
            self.check_refused(sheet, "UnknownCouple", table_row, couple)

    def test_both_at_once(self):
        sheet = Sheet(COUPLES, PANEL)
        sheet.strike(4)
        for couple in NO_COUPLES + [4]:
            self.check_refused(sheet, "TooFewCards", table_row, couple)


class OwnLists(TableTest):
    def test_the_list_is_a_new_one_each_time(self):
        sheet = with_three()
        before, other = told(sheet), table(sheet)
        answer = table(sheet)
        self.assertIs(type(answer), list)
        answer.reverse()
        answer[0] = "1"
        answer.append("2")
        self.assertEqual((table(sheet), other, told(sheet)), (TABLE, TABLE, before))

    def test_the_kinds(self):
        sheet = with_three()
        self.assertIs(type(table_row(sheet, 4)), str)
        self.assertEqual([type(row) for row in table(sheet)], [str] * 4)

    def test_what_was_told_does_not_change_by_later_deeds(self):
        sheet = with_three()
        answer = table(sheet)
        sheet.strike(17)
        self.assertEqual(answer, TABLE)

    def test_no_question_changes_the_sheet(self):
        sheet = with_three()
        before = told(sheet)
        for again in range(3):
            self.check_table(sheet, TABLE)
            self.assertEqual(told(sheet), before)


if __name__ == "__main__":
    unittest.main()
