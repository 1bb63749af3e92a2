"""panelplace.desk: what a row does and how it is answered (35), refusals and many rows (36)."""

import itertools
import unittest

from helper import ANNA, BO, COUPLES, PANEL, with_anna, with_none, with_three, with_two
from helper import asked, mixed, only, refusal_of, sheet_of, told
from panelplace.desk import answer, answers
from panelplace.sheet import Sheet

# What is told with three cards in, sign by sign.
TOLD_OF_THREE = [
    ("couples", "17 4 230 9"),
    ("places", "1:17 2:9 3:4 4:230"),
    ("parts", "17>9:3:count 9>4:2:half 4>230:3:sum"),
    ("deciders", "dora bo anna"),
    ("show dora", "4 230 17 9"),
    ("show bo", "17 9 4 230"),
    ("show anna", "9 17 230 4"),
    ("leave dora", "1:17 1:9 3:4 3:230"),
    ("leave bo", "1:17 1:230 3:4 3:9"),
    ("leave anna", "1:17 1:4 3:230 3:9"),
    ("step bo 4", "9 | 1:17 2:4 3:9 4:230"),
    ("row 17", "1 17 | 3 1 2 | 1/1 2/3 3/6 3/6"),
    ("row 9", "2 9 | 4 2 1 | 1/1 2/3 2/3 3/7"),
    ("row 4", "3 4 | 1 3 4 | 1/1 1/1 2/4 3/8"),
    ("row 230", "4 230 | 2 4 3 | 0/0 1/2 2/5 3/9"),
]
# What is refused of questions with three cards in.
REFUSED_OF_THREE = [
    ("show cleo", "refused: judge"),
    ("leave cleo", "refused: judge"),
    ("step cleo 17", "refused: judge"),
    ("step cleo 5", "refused: judge"),
    ("step bo 5", "refused: couple"),
    ("step bo 17", "refused: top"),
    ("row 5", "refused: couple"),
    ("row 999", "refused: couple"),
]
BAD_ROWS = [
    "", " ", "  ", " places", "places ", "Places", "PLACES", "place", "table", "places 1", "places places", "seal 1",
    "seal bo", " seal", "seal ", "SEAL", "couples 17", "parts 1", "deciders bo", "card", "card ", "card  bo 17 4 230 9",
    "card bo 17 4  230 9", "card bo 17 4 230 09", "card bo 17 4 230 9 ", "card bo 17 4 230 1000", "card bo 17 4 230 x",
    "card bo 17 4 230 -9", "card bo 17 4 230 +9", "strike", "strike 0", "strike 017", "strike 1_7", "strike 17 4",
    "strike bo", "strike 1000", "show", "show bo bo", "leave", "leave bo 17", "step", "step bo", "step bo 17 4",
    "step 17 bo", "step bo 4.0", "row", "row bo", "row 17 4", "row 00", "refused: row", "k" * 300, " " * 300, "~",
]


def sealed(sheet):
    sheet.seal()
    return sheet


class DeskTest(unittest.TestCase):
    def check_rows(self, sheet, rows):
        """Rows that change nothing, told or refused."""
        before = told(sheet), asked(sheet)
        for row, hoped in rows:
            self.assertEqual(answer(sheet, row), hoped, row)
            self.assertEqual((told(sheet), asked(sheet)), before, row)


class Deeds(DeskTest):
    def test_a_card_is_handed_in(self):
        sheet, other = with_none(), with_none()
        self.assertEqual(answer(sheet, "card bo 17 9 4 230"), "taken")
        other.hand_in("bo", BO)
        self.assertEqual(told(sheet), told(other))
        self.assertEqual(answer(sheet, "card anna 9 17 230 4"), "taken")
        self.assertEqual(answer(sheet, "card bo 4 17 230 9"), "taken")
        self.assertEqual((sheet.cards(), sheet.taken()), ([[4, 17, 230, 9], ANNA], 3))

    def test_a_couple_is_struck(self):
        sheet, other = with_three(), with_three()
        self.assertEqual(answer(sheet, "strike 230"), "struck")
        other.strike(230)
        self.assertEqual((told(sheet), asked(sheet)), (told(other), asked(other)))

    def test_the_sheet_is_sealed(self):
        for sheet, other in ((with_none(), with_none()), (with_three(), with_three())):
            self.assertEqual(answer(sheet, "seal"), "sealed")
            self.assertEqual(told(sheet), told(sealed(other)))

    def test_the_row_is_read_anew_each_time(self):
        sheet = with_none()
        for judge in PANEL:
            self.assertEqual(answer(sheet, "card " + judge + " 17 9 4 230"), "taken")
        sheet.strike(9)
        sheet.hand_in("bo", [4, 17, 230])
        self.assertEqual(sheet.cards(), [[17, 4, 230], [4, 17, 230], [17, 4, 230]])


class Questions(DeskTest):
    def test_on_an_open_sheet(self):
        self.check_rows(with_three(), TOLD_OF_THREE + REFUSED_OF_THREE)

    def test_on_a_sealed_sheet(self):
        self.check_rows(sealed(with_three()), TOLD_OF_THREE + REFUSED_OF_THREE)

    def test_no_card_in(self):
        rows = [
            ("couples", "17 4 230 9"), ("places", "refused: few"), ("parts", "refused: few"),
            ("deciders", "refused: few"), ("row 17", "refused: few"), ("row 5", "refused: few"),
            ("show bo", "refused: none"), ("show cleo", "refused: judge"), ("leave bo", "refused: none"),
            ("leave cleo", "refused: judge"), ("step bo 17", "refused: none"), ("step bo 5", "refused: none"),
            ("step cleo 17", "refused: judge"),
        ]
        self.check_rows(with_none(), rows)
        self.check_rows(sealed(with_none()), rows)

    def test_one_card_in(self):
        rows = [
            ("places", "1:9 2:17 3:230 4:4"), ("parts", "9>17:1:half 17>230:2:half 230>4:3:half"),
            ("deciders", "refused: few"), ("row 4", "4 4 | 4 | 0/0 0/0 0/0 1/4"), ("show anna", "9 17 230 4"),
            ("show bo", "refused: none"), ("leave anna", "refused: few"), ("leave bo", "refused: none"),
            ("step anna 4", "230 | 1:9 2:17 3:4 4:230"), ("step anna 9", "refused: top"),
        ]
        self.check_rows(with_anna(), rows)
        self.check_rows(sealed(with_anna()), rows)

    def test_shared_places(self):
        rows = [
            ("places", "1:17 1:230 3:4 3:9"), ("parts", "230>4:3:half"), ("deciders", "dora anna"),
            ("leave dora", "1:9 2:17 3:230 4:4"), ("leave anna", "1:4 2:230 3:17 4:9"),
            ("step dora 17", "230 | 1:17 2:230 3:4 3:9"), ("step dora 230", "4 | 1:230 2:17 3:9 4:4"),
            ("row 230", "1 230 | 2 3 | 0/0 1/2 2/5 2/5"), ("row 9", "3 9 | 4 1 | 1/1 1/1 1/1 2/5"),
        ]
        self.check_rows(with_two(), rows)
        self.check_rows(sealed(with_two()), rows)

    def test_shared_places_stand_in_the_order_of_the_couples_that_stand(self):
        cards = [[9, 30, 4, 7], [9, 4, 30, 7], [9, 7, 30, 4]]
        for couples in itertools.permutations([9, 30, 4, 7]):
            sheet = sheet_of(list(couples), cards)
            one, other = [couple for couple in couples if couple in (30, 4)]
            self.assertEqual(answer(sheet, "leave jc"), "1:9 2:%d 2:%d 4:7" % (one, other))
            one, other = [couple for couple in couples if couple in (9, 30)]
            stepped = answer(sheet_of(list(couples), [[9, 30, 4, 7], [9, 30, 4, 7]]), "step ja 30")
            self.assertEqual(stepped, "9 | 1:%d 1:%d 3:4 4:7" % (one, other))

    def test_all_first(self):
        sheet = sheet_of([8, 3], [[3, 8], [3, 8]])
        self.assertEqual(answer(sheet, "step jb 8"), "3 | 1:8 1:3")
        self.assertEqual(answer(sheet_of([8, 3], [[3, 8], [8, 3]]), "places"), "1:8 1:3")

    def test_none(self):
        for sheet in (sheet_of([5], [[5], [5]]), sealed(sheet_of([5], [[5], [5]]))):
            self.check_rows(sheet, [("parts", "none"), ("deciders", "none"), ("places", "1:5"), ("leave ja", "1:5"),
                                    ("couples", "5"), ("show jb", "5"), ("row 5", "1 5 | 1 1 | 2/2"),
                                    ("step ja 5", "refused: top")])
        sharing = sheet_of([8, 3], [[3, 8], [8, 3]])
        self.check_rows(sharing, [("parts", "none"), ("deciders", "ja jb")])

    def test_one_alone(self):
        sheet = sheet_of([1, 2, 3], [[1, 2, 3], [2, 3, 1]])
        self.check_rows(sheet, [("deciders", "jb"), ("places", "1:2 2:1 3:3"), ("parts", "2>1:2:half 1>3:3:sum")])

    def test_after_a_striking(self):
        sheet = with_three()
        self.assertEqual(answer(sheet, "strike 17"), "struck")
        self.check_rows(sheet, [
            ("couples", "4 230 9"), ("show bo", "9 4 230"), ("places", "1:9 2:4 3:230"),
            ("parts", "9>4:1:half 4>230:2:sum"), ("deciders", "bo anna"), ("row 9", "1 9 | 3 1 1 | 2/2 2/2 3/5"),
            ("row 17", "refused: couple"), ("step bo 17", "refused: couple"), ("step bo 9", "refused: top"),
            ("leave dora", "1:9 2:4 2:230"), ("strike 17", "refused: couple"), ("card bo 17 9 4 230", "refused: card"),
        ])

    def test_most(self):
        couples = list(range(976, 1000))
        sheet = sheet_of(couples, [couples] * 15)
        pairs = list(zip(couples, couples[1:]))
        self.check_texts(sheet, {
            "couples": " ".join([str(couple) for couple in couples]),
            "places": " ".join(["%d:%d" % (k, couple) for k, couple in enumerate(couples, start=1)]),
            "parts": " ".join(["%d>%d:%d:half" % (one, other, k) for k, (one, other) in enumerate(pairs, start=1)]),
            "deciders": "none",
            "row 999": "24 999 |" + " 24" * 15 + " |" + " 0/0" * 23 + " 15/360",
        })

    def check_texts(self, sheet, hoped):
        for row in hoped:
            self.assertEqual(answer(sheet, row), hoped[row])


class Refusals(DeskTest):
    def test_rows_that_cannot_be_read(self):
        for sheet in (with_none(), with_three(), sealed(with_none()), sealed(with_three())):
            self.check_rows(sheet, [(row, "refused: row") for row in BAD_ROWS])

    def test_a_sealed_sheet(self):
        for sheet in (sealed(with_none()), sealed(with_three())):
            self.check_rows(sheet, [
                ("card bo 17 4 230 9", "refused: sealed"), ("card cleo 17 4 230 9", "refused: sealed"),
                ("card bo 5", "refused: sealed"), ("card bo", "refused: sealed"), ("strike 17", "refused: sealed"),
                ("strike 5", "refused: sealed"), ("seal", "refused: sealed")])

    def test_cards(self):
        for sheet in (with_none(), with_three()):
            self.check_rows(sheet, [
                ("card cleo 17 4 230 9", "refused: judge"), ("card Bo 17 4 230 9", "refused: judge"),
                ("card 17 4 230 9", "refused: judge"), ("card cleo", "refused: judge"),
                ("card cleo 5", "refused: judge"),
                ("card bo", "refused: card"), ("card bo 17", "refused: card"), ("card bo 17 4 230", "refused: card"),
                ("card bo 17 4 230 9 9", "refused: card"), ("card bo 17 4 230 5", "refused: card"),
                ("card bo 17 4 230 9 5", "refused: card"), ("card bo" + " 9" * 140, "refused: card")])

    def test_a_full_sheet(self):
        sheet = with_three()
        for k in range(197):
            self.assertEqual(answer(sheet, "card bo 17 9 4 230"), "taken")
        self.check_rows(sheet, TOLD_OF_THREE + REFUSED_OF_THREE + [
            ("card bo 17 9 4 230", "refused: full"), ("card anna 17 9 4 230", "refused: full"),
            ("card cleo 17 9 4 230", "refused: judge"), ("card bo 17 9 4", "refused: card"), ("card", "refused: row")])
        self.assertEqual(answer(sheet, "strike 4"), "struck")
        self.assertEqual(answer(sheet, "card bo 17 9 230"), "refused: full")
        self.assertEqual(answer(sheet, "seal"), "sealed")
        self.assertEqual(answer(sheet, "card bo 17 9 230"), "refused: sealed")

    def test_striking(self):
        sheet = with_three()
        self.check_rows(sheet, [("strike 5", "refused: couple"), ("strike 999", "refused: couple")])
        for couple in (17, 4, 230):
            self.assertEqual(answer(sheet, "strike %d" % couple), "struck")
            self.check_rows(sheet, [("strike %d" % couple, "refused: couple")])
        self.check_rows(sheet, [("strike 9", "refused: last"), ("strike 5", "refused: couple"), ("couples", "9")])
        sheet.seal()
        self.check_rows(sheet, [("strike 9", "refused: sealed"), ("couples", "9")])

    def test_nothing_is_raised_whatever_the_row(self):
        words = ["card", "strike", "couples", "places", "parts", "deciders", "show", "leave", "step", "row", "bo",
                 "cleo", "17", "5", "0", "1000", "", "~", "17 9 4 230"]
        full, seen = Sheet([17], ["bo"]), {}
        for k in range(200):
            full.hand_in("bo", [17])
        for sheet in (with_none(), with_two(), full, sealed(with_three())):
            # To seal an open sheet would keep the other rows from doing anything.
            for many, word in itertools.product(range(1, 4), words + ["seal"] * sheet.is_sealed()):
                for rest in itertools.product(words, repeat=many - 1):
                    text = answer(sheet, " ".join((word,) + rest))
                    self.assertIs(type(text), str)
                    seen[text] = True
        refused = sorted([text for text in seen if text.startswith("refused: ")])
        self.assertEqual(refused, ["refused: " + word for word in (
            "card", "couple", "few", "full", "judge", "last", "none", "row", "sealed", "top")])

    def test_texts_of_every_sign(self):
        signs = [chr(k) for k in range(32, 127)]
        sheet = with_two()
        for turn in range(300):
            self.assertEqual(answer(sheet, "".join(mixed(signs * 3, turn)[:turn])), "refused: row")
        for sign in signs:
            self.assertEqual(answer(sheet, sign), "refused: row")
            if sign != " ":
                self.assertEqual(answer(sheet, "show " + sign), "refused: judge")


ROWS = [
    ("couples", "17 4 230 9"), ("places", "refused: few"), ("card anna 9 17 230 4", "taken"),
    ("card dora 4 230 17 9", "taken"), ("", "refused: row"), ("places", "1:17 1:230 3:4 3:9"),
    ("card bo 17 9 4", "refused: card"), ("card bo 17 9 4 230", "taken"), ("places", "1:17 2:9 3:4 4:230"),
    ("strike 5", "refused: couple"), ("strike 17", "struck"), ("places", "1:9 2:4 3:230"), ("strike 4", "struck"),
    ("strike 9", "struck"), ("strike 230", "refused: last"), ("parts", "none"), ("deciders", "none"),
    ("seal", "sealed"), ("seal", "refused: sealed"), ("seal ", "refused: row"), ("show bo", "230"), ("leave bo", "1:230"),
    ("step bo 230", "refused: top"), ("show cleo", "refused: judge"), ("row 230", "1 230 | 1 1 1 | 3/3"),
]


class ManyRows(DeskTest):
    def test_none_and_one(self):
        self.assertEqual(answers(COUPLES, PANEL, []), [])
        for row, hoped in (("couples", "17 4 230 9"), ("seal", "sealed"), ("", "refused: row")):
            self.assertEqual(answers(COUPLES, PANEL, [row]), [hoped])

    def test_many(self):
        rows, hoped = [row for row, text in ROWS], [text for row, text in ROWS]
        for many in range(len(ROWS) + 1):
            self.assertEqual(answers(COUPLES, PANEL, rows[:many]), hoped[:many])

    def test_one_after_the_other_as_on_a_sheet(self):
        sheet = with_none()
        rows = [row for row, text in ROWS]
        self.assertEqual(answers(COUPLES, PANEL, rows), [answer(sheet, row) for row in rows])

    def test_three_hundred_rows(self):
        rows = ["card bo 17 9 4 230"] * 201 + ["places"] * 99
        self.assertEqual(
            answers(COUPLES, PANEL, rows), ["taken"] * 200 + ["refused: full"] + ["1:17 2:9 3:4 4:230"] * 99)

    def test_bad_couples_bad_judges_and_both(self):
        bad_couples = [[], [0], [1000], [5, 5], list(range(1, 26)), [10 ** 5000], [-1]]
        bad_judges = [[], [""], ["Bo"], ["bo", "bo"], ["k" * 9], ["j" + letter for letter in "abcdefghijklmnop"]]
        for rows in ([], ["seal"], ["", "places"]):
            for couples in bad_couples:
                self.assertEqual(refusal_of(answers, couples, PANEL, rows), only("BadCouples"))
            for judges in bad_judges:
                self.assertEqual(refusal_of(answers, COUPLES, judges, rows), only("BadJudges"))
            for couples, judges in itertools.product(bad_couples, bad_judges):
                self.assertEqual(refusal_of(answers, couples, judges, rows), only("BadCouples"))

    def test_no_row_is_looked_at_where_they_are_bad(self):
        class Rows(list):
            def __iter__(self):
                raise AssertionError("a row was looked at")

        self.assertEqual(refusal_of(answers, [0], PANEL, Rows(["seal"])), only("BadCouples"))
        self.assertEqual(refusal_of(answers, COUPLES, ["Bo"], Rows(["seal"])), only("BadJudges"))

    def test_the_lists_handed_in_stay(self):
        couples, judges, rows = list(COUPLES), list(PANEL), [row for row, text in ROWS]
        answers(couples, judges, rows)
        self.assertEqual((couples, judges, rows), (COUPLES, PANEL, [row for row, text in ROWS]))

    def test_two_calls_share_nothing(self):
        couples, judges, rows = list(COUPLES), list(PANEL), [row for row, text in ROWS]
        one, other = answers(couples, judges, rows), answers(couples, judges, rows)
        self.assertEqual((one, other), ([text for row, text in ROWS],) * 2)
        one.clear()
        rows.clear()
        couples.clear()
        self.assertEqual(other, [text for row, text in ROWS])
        self.assertEqual(answers(COUPLES, judges, ["couples", "seal"]), ["17 4 230 9", "sealed"])

    def test_the_kinds(self):
        result = answers(COUPLES, PANEL, ["couples", "", "seal"])
        self.assertIs(type(result), list)
        self.assertEqual([type(text) for text in result], [str, str, str])

    def test_two_sheets_at_the_desk_share_nothing(self):
        one, other = with_two(), with_two()
        before = told(other), asked(other)
        for row in ("strike 17", "card bo 4 9 230", "seal"):
            answer(one, row)
        self.assertEqual((told(other), asked(other)), before)


if __name__ == "__main__":
    unittest.main()
