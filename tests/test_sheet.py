"""panelplace.sheet: the making (19), handing in (20), striking (21), sealing (22), what it tells (23)."""

import itertools
import unittest

from helper import mixed, only, refusal_of, told
from panelplace import sheet as sheet_module
from panelplace.sheet import Sheet

COUPLES = [17, 4, 230, 9]
JUDGES = ["dora", "bo", "anna"]
HUGE = 10 ** 5000
# What is no good couples, and what is no good judges.
BAD_COUPLES = [
    [], [0], [1000], [-1], [5, 5], [4, 9, 4], list(range(1, 26)), list(range(1, 301)), [10 ** 30], [4, HUGE], [-HUGE],
]
BAD_JUDGES = [
    [], [""], ["Anna"], ["an na"], ["anna "], ["bo", "bo"], ["bo", "cleo", "bo"], ["k" * 9], ["k" * 300], ["a1"],
    ["judge" + letter for letter in "abcdefghijklmnop"], ["a"] * 300,
]
# What is no card that is whole for COUPLES: some left out, some doubled, some that are strangers.
BAD_CARDS = [
    [], [17, 4, 230], [4, 230, 9], [17, 4, 230, 4], [17, 17, 4, 230, 9], COUPLES + COUPLES, [17, 4, 230, 9, 1],
    [17, 4, 230, 0], [17, 4, 230, 9, 0], [-1, 17, 4, 230], [17, -1, 4, 230, 9], [17, 4, 230, 10 ** 30],
    [17, 10 ** 30, 4, 230, 9], [17, 4, 230, HUGE], [HUGE, 17, 4, 230, 9], [17, 4, 230, -HUGE], [HUGE], [-HUGE] * 300,
    [-17, 4, 230, 9], list(range(1, 301)),
]
STRANGERS = ["", "cleo", "Bo", "BO", "bo ", " bo", "b o", "bobo", "b", "dora bo", "~", "k" * 300]
NO_COUPLES = [0, -1, 1, 18, -17, 999, 1000, 10 ** 30, -(10 ** 30), HUGE, -HUGE]


def new_sheet():
    return Sheet(list(COUPLES), list(JUDGES))


def handed_sheet():
    sheet = new_sheet()
    sheet.hand_in("anna", [9, 17, 230, 4])
    sheet.hand_in("dora", [4, 230, 17, 9])
    return sheet


def full_sheet():
    sheet = handed_sheet()
    for k in range(198):
        sheet.hand_in(("anna", "dora")[k % 2], mixed(COUPLES, k))
    return sheet


def sealed(sheet):
    sheet.seal()
    return sheet


def with_one_standing():
    sheet = handed_sheet()
    for couple in (17, 230, 4):
        sheet.strike(couple)
    return sheet


class SheetTest(unittest.TestCase):
    def check_refused(self, sheet, name, deed, *handed_in):
        before = told(sheet)
        self.assertEqual(refusal_of(deed, *handed_in), only(name))
        self.assertEqual(told(sheet), before)


class Making(unittest.TestCase):
    def test_what_it_tells_at_first(self):
        sheet = Sheet([17, 4, 230], ["dora", "bo"])
        self.assertEqual(told(sheet), {
            "couples": [17, 4, 230], "struck": [], "judges": ["dora", "bo"], "handed": [], "cards": [],
            "card_of": ["NoCard", "NoCard", "UnknownJudge"], "taken": 0, "is_sealed": False,
        })

    def test_good_ones_of_each_size(self):
        for many, judges in ((1, 1), (24, 15), (1, 15), (24, 1), (7, 5)):
            couples = mixed(list(range(976, 976 + many)), many)
            names = mixed(["judge" + letter for letter in "abcdefghijklmno"], many)[:judges]
            sheet = Sheet(couples, names)
            self.assertEqual((sheet.couples(), sheet.judges()), (couples, names))

    def test_no_good_couples(self):
        for couples in BAD_COUPLES:
            before = list(couples)
            self.assertEqual(refusal_of(Sheet, couples, ["bo"]), only("BadCouples"))
            self.assertTrue(couples == before)

    def test_no_good_judges(self):
        for judges in BAD_JUDGES:
            before = list(judges)
            self.assertEqual(refusal_of(Sheet, [17, 4], judges), only("BadJudges"))
            self.assertEqual(judges, before)

    def test_neither_good(self):
        for couples, judges in itertools.product(BAD_COUPLES, BAD_JUDGES):
            self.assertEqual(refusal_of(Sheet, couples, judges), only("BadCouples"))

    def test_lists_that_are_changed_behind_it(self):
        couples, judges = list(COUPLES), list(JUDGES)
        sheet = Sheet(couples, judges)
        before = told(sheet)
        couples.reverse()
        couples.append(5)
        judges[0] = "cleo"
        judges.pop()
        self.assertEqual(told(sheet), before)
        sheet.hand_in("dora", COUPLES)
        sheet.strike(17)
        self.assertEqual(couples, [9, 230, 4, 17, 5])
        self.assertEqual(judges, ["cleo", "bo"])

    def test_the_bound(self):
        self.assertEqual(sheet_module.MOST_CARDS, 200)


class HandingIn(SheetTest):
    def test_ordinary_ones(self):
        sheet = new_sheet()
        self.assertIsNone(sheet.hand_in("anna", [9, 17, 230, 4]))
        self.assertEqual(sheet.card_of("anna"), [9, 17, 230, 4])
        self.assertEqual((sheet.handed(), sheet.cards(), sheet.taken()), (["anna"], [[9, 17, 230, 4]], 1))
        self.assertIsNone(sheet.hand_in("dora", [4, 230, 17, 9]))
        self.assertEqual(sheet.handed(), ["dora", "anna"])
        self.assertEqual(sheet.cards(), [[4, 230, 17, 9], [9, 17, 230, 4]])
        self.assertEqual(sheet.taken(), 2)
        self.assertEqual((sheet.couples(), sheet.judges(), sheet.struck()), (COUPLES, JUDGES, []))
        self.assertIs(sheet.is_sealed(), False)

    def test_every_order_of_the_couples(self):
        sheet = new_sheet()
        for many, card in enumerate(itertools.permutations(COUPLES), start=1):
            sheet.hand_in("bo", list(card))
            self.assertEqual((sheet.card_of("bo"), sheet.taken()), (list(card), many))

    def test_most_couples_and_judges(self):
        couples = list(range(999, 975, -1))
        judges = ["judge" + letter for letter in "abcdefghijklmno"]
        sheet = Sheet(couples, judges)
        for k, judge in enumerate(mixed(judges, 2)):
            sheet.hand_in(judge, mixed(couples, k))
        self.assertEqual(sheet.handed(), judges)
        self.assertEqual(sheet.cards(), [mixed(couples, mixed(judges, 2).index(judge)) for judge in judges])

    def test_the_same_card_again(self):
        sheet = handed_sheet()
        before = told(sheet)
        for many in (3, 4, 5):
            sheet.hand_in("anna", [9, 17, 230, 4])
            before["taken"] = many
            self.assertEqual(told(sheet), before)

    def test_another_card_in_its_place(self):
        sheet = handed_sheet()
        sheet.hand_in("anna", [230, 9, 4, 17])
        self.assertEqual(sheet.card_of("anna"), [230, 9, 4, 17])
        self.assertEqual(sheet.cards(), [[4, 230, 17, 9], [230, 9, 4, 17]])
        self.assertEqual((sheet.handed(), sheet.taken()), (["dora", "anna"], 3))

    def test_the_card_that_was_handed_in_is_changed_later(self):
        sheet, card = new_sheet(), [9, 17, 230, 4]
        sheet.hand_in("anna", card)
        sheet.hand_in("bo", card)
        self.assertEqual(card, [9, 17, 230, 4])
        card.reverse()
        card.append(5)
        self.assertEqual(sheet.cards(), [[9, 17, 230, 4], [9, 17, 230, 4]])
        sheet.strike(17)
        self.assertEqual(card, [4, 230, 17, 9, 5])

    def test_unknown_judges(self):
        for sheet in (new_sheet(), handed_sheet()):
            for judge in STRANGERS:
                self.check_refused(sheet, "UnknownJudge", sheet.hand_in, judge, list(COUPLES))

    def test_bad_cards(self):
        for sheet in (new_sheet(), handed_sheet()):
            for card in BAD_CARDS:
                before = list(card)
                self.check_refused(sheet, "BadCard", sheet.hand_in, "anna", card)
                self.assertTrue(card == before)

    def test_cards_with_a_struck_couple_or_without_one_that_stands(self):
        sheet = handed_sheet()
        sheet.strike(4)
        for card in ([17, 4, 230, 9], [17, 4, 230], [4, 230, 9], [17, 230], [230, 9], [], [4], [17, 230, 9, 9]):
            for judge in JUDGES:
                self.check_refused(sheet, "BadCard", sheet.hand_in, judge, card)
        sheet.hand_in("bo", [230, 9, 17])
        self.assertEqual(sheet.card_of("bo"), [230, 9, 17])

    def test_the_last_one_and_one_more(self):
        sheet = new_sheet()
        for k in range(200):
            self.assertEqual(sheet.taken(), k)
            sheet.hand_in(JUDGES[k % 3], mixed(COUPLES, k))
        self.assertEqual(sheet.taken(), 200)
        self.assertEqual(sheet.card_of(JUDGES[199 % 3]), mixed(COUPLES, 199))
        for judge in JUDGES:
            self.check_refused(sheet, "TooManyCards", sheet.hand_in, judge, list(COUPLES))
        self.check_refused(sheet, "TooManyCards", sheet.hand_in, "bo", sheet.card_of("bo"))

    def test_a_full_sheet_and_a_judge_without_a_card(self):
        sheet = full_sheet()
        self.check_refused(sheet, "TooManyCards", sheet.hand_in, "bo", list(COUPLES))
        self.assertEqual(sheet.handed(), ["dora", "anna"])

    def test_what_is_refused_does_not_count(self):
        sheet = new_sheet()
        for k in range(200):
            self.assertEqual(refusal_of(sheet.hand_in, "cleo", list(COUPLES)), only("UnknownJudge"))
            self.assertEqual(refusal_of(sheet.hand_in, "bo", COUPLES[1:]), only("BadCard"))
            self.assertEqual(sheet.taken(), k)
            sheet.hand_in("bo", list(COUPLES))
        for k in range(3):
            self.check_refused(sheet, "TooManyCards", sheet.hand_in, "bo", list(COUPLES))
            self.assertEqual(sheet.taken(), 200)

    def test_a_sealed_sheet(self):
        for sheet in (sealed(new_sheet()), sealed(handed_sheet())):
            for judge in JUDGES:
                self.check_refused(sheet, "SheetSealed", sheet.hand_in, judge, list(COUPLES))

    def test_two_refusals_at_once(self):
        shut, full, both = sealed(handed_sheet()), full_sheet(), sealed(full_sheet())
        for sheet, name, judge, card in (
                (shut, "SheetSealed", "cleo", COUPLES), (shut, "SheetSealed", "anna", [17, 4]),
                (both, "SheetSealed", "anna", COUPLES), (handed_sheet(), "UnknownJudge", "cleo", [17, 4]),
                (full, "UnknownJudge", "cleo", COUPLES), (full, "BadCard", "anna", [17, 4])):
            self.check_refused(sheet, name, sheet.hand_in, judge, list(card))

    def test_more_refusals_at_once(self):
        shut, full, both = sealed(handed_sheet()), full_sheet(), sealed(full_sheet())
        for sheet, name in ((shut, "SheetSealed"), (full, "UnknownJudge"), (both, "SheetSealed")):
            self.check_refused(sheet, name, sheet.hand_in, "cleo", [HUGE])
        self.check_refused(both, "SheetSealed", both.hand_in, "anna", [HUGE])
        for card in BAD_CARDS:
            self.check_refused(full, "BadCard", full.hand_in, "bo", card)


class Striking(SheetTest):
    def test_ahead_of_the_cards_between_them_and_behind_them(self):
        sheet = new_sheet()
        self.assertIsNone(sheet.strike(230))
        self.assertEqual((sheet.couples(), sheet.struck(), sheet.cards()), ([17, 4, 9], [230], []))
        sheet.hand_in("anna", [9, 17, 4])
        self.assertIsNone(sheet.strike(17))
        self.assertEqual((sheet.couples(), sheet.struck(), sheet.cards()), ([4, 9], [230, 17], [[9, 4]]))
        sheet.hand_in("dora", [4, 9])
        self.assertIsNone(sheet.strike(4))
        self.assertEqual((sheet.couples(), sheet.struck(), sheet.cards()), ([9], [230, 17, 4], [[9], [9]]))
        self.assertEqual((sheet.handed(), sheet.taken()), (["dora", "anna"], 2))

    def test_each_couple_leaves_each_card(self):
        for couple in COUPLES:
            sheet = handed_sheet()
            sheet.strike(couple)
            self.assertEqual(sheet.couples(), [other for other in COUPLES if other != couple])
            self.assertEqual(sheet.card_of("anna"), [other for other in [9, 17, 230, 4] if other != couple])
            self.assertEqual(sheet.card_of("dora"), [other for other in [4, 230, 17, 9] if other != couple])
            self.assertEqual(refusal_of(sheet.card_of, "bo"), only("NoCard"))
            self.assertEqual((sheet.struck(), sheet.taken(), sheet.judges()), ([couple], 2, JUDGES))

    def test_in_every_order(self):
        for order in itertools.permutations(COUPLES, 3):
            sheet = handed_sheet()
            for couple in order:
                sheet.strike(couple)
            left = [couple for couple in COUPLES if couple not in order]
            self.assertEqual((sheet.couples(), sheet.struck(), sheet.cards()), (left, list(order), [left, left]))

    def test_most_couples_down_to_one(self):
        couples = list(range(24, 0, -1))
        sheet = Sheet(couples, ["bo"])
        sheet.hand_in("bo", mixed(couples, 4))
        order = mixed(couples, 9)
        for many in range(1, 24):
            sheet.strike(order[many - 1])
            self.assertEqual(sheet.struck(), order[:many])
            self.assertEqual(sheet.couples(), [couple for couple in couples if couple not in order[:many]])
            self.assertEqual(
                sheet.card_of("bo"), [couple for couple in mixed(couples, 4) if couple not in order[:many]])
        self.check_refused(sheet, "LastCouple", sheet.strike, order[23])

    def test_numbers_of_no_couple(self):
        for sheet in (new_sheet(), handed_sheet()):
            for couple in NO_COUPLES:
                self.check_refused(sheet, "UnknownCouple", sheet.strike, couple)

    def test_one_that_was_struck_already(self):
        sheet = handed_sheet()
        sheet.strike(17)
        sheet.strike(9)
        for couple in (17, 9):
            self.check_refused(sheet, "UnknownCouple", sheet.strike, couple)

    def test_the_last_one_that_stands(self):
        for sheet in (with_one_standing(), Sheet([9], ["bo"])):
            self.check_refused(sheet, "LastCouple", sheet.strike, 9)
            self.check_refused(sheet, "LastCouple", sheet.strike, 9)

    def test_a_sealed_sheet(self):
        for sheet in (sealed(new_sheet()), sealed(handed_sheet())):
            for couple in COUPLES:
                self.check_refused(sheet, "SheetSealed", sheet.strike, couple)

    def test_several_refusals_at_once(self):
        alone, shut = with_one_standing(), sealed(with_one_standing())
        self.check_refused(shut, "SheetSealed", shut.strike, 9)
        for couple in NO_COUPLES + [17, 4, 230]:
            self.check_refused(alone, "UnknownCouple", alone.strike, couple)
            self.check_refused(shut, "SheetSealed", shut.strike, couple)
        wide = sealed(handed_sheet())
        for couple in NO_COUPLES:
            self.check_refused(wide, "SheetSealed", wide.strike, couple)

    def test_it_counts_as_no_handing_in(self):
        sheet = full_sheet()
        sheet.strike(17)
        self.assertEqual(sheet.taken(), 200)
        self.check_refused(sheet, "TooManyCards", sheet.hand_in, "bo", [4, 230, 9])
        sheet = new_sheet()
        for k in range(197):
            sheet.hand_in("bo", list(COUPLES))
        for couple in (4, 17, 230):
            sheet.strike(couple)
            sheet.hand_in("bo", sheet.couples())
        self.assertEqual(sheet.taken(), 200)
        self.check_refused(sheet, "TooManyCards", sheet.hand_in, "bo", [9])

    def test_a_full_sheet_can_be_struck(self):
        sheet = full_sheet()
        before = sheet.card_of("anna")
        self.assertIsNone(sheet.strike(4))
        self.assertEqual(sheet.card_of("anna"), [couple for couple in before if couple != 4])


class Sealing(SheetTest):
    def test_at_once_after_cards_and_after_striking(self):
        for sheet in (new_sheet(), handed_sheet(), full_sheet(), with_one_standing()):
            before = told(sheet)
            self.assertIs(before["is_sealed"], False)
            self.assertIsNone(sheet.seal())
            before["is_sealed"] = True
            self.assertEqual(told(sheet), before)
            self.assertIs(sheet.is_sealed(), True)

    def test_twice(self):
        for sheet in (sealed(new_sheet()), sealed(full_sheet())):
            self.check_refused(sheet, "SheetSealed", sheet.seal)
            self.check_refused(sheet, "SheetSealed", sheet.seal)

    def test_each_deed_afterwards(self):
        sheet = sealed(handed_sheet())
        self.check_refused(sheet, "SheetSealed", sheet.hand_in, "bo", list(COUPLES))
        self.check_refused(sheet, "SheetSealed", sheet.hand_in, "anna", [9, 17, 230, 4])
        self.check_refused(sheet, "SheetSealed", sheet.strike, 17)
        self.check_refused(sheet, "SheetSealed", sheet.seal)

    def test_questions_are_refused_as_before(self):
        sheet = sealed(handed_sheet())
        self.check_refused(sheet, "NoCard", sheet.card_of, "bo")
        self.check_refused(sheet, "UnknownJudge", sheet.card_of, "cleo")


class Telling(SheetTest):
    def test_the_orders(self):
        sheet = Sheet([40, 3, 500, 21, 7], ["zoe", "mia", "abe", "kim"])
        sheet.hand_in("kim", [7, 21, 500, 3, 40])
        sheet.hand_in("zoe", [3, 40, 7, 500, 21])
        sheet.hand_in("abe", [21, 3, 40, 7, 500])
        sheet.strike(21)
        sheet.strike(40)
        sheet.hand_in("kim", [500, 3, 7])
        self.assertEqual(told(sheet), {
            "couples": [3, 500, 7], "struck": [21, 40], "judges": ["zoe", "mia", "abe", "kim"],
            "handed": ["zoe", "abe", "kim"], "cards": [[3, 7, 500], [3, 7, 500], [500, 3, 7]],
            "card_of": [[3, 7, 500], "NoCard", [3, 7, 500], [500, 3, 7], "UnknownJudge"],
            "taken": 4, "is_sealed": False,
        })

    def test_the_orders_whoever_hands_in_first(self):
        hoped = [[17, 4, 230, 9], [4, 17, 9, 230], [9, 230, 4, 17]]
        for order in itertools.permutations(range(3)):
            sheet = new_sheet()
            for k in order:
                sheet.hand_in(JUDGES[k], list(hoped[k]))
            self.assertEqual((sheet.handed(), sheet.cards()), (JUDGES, hoped))

    def test_a_judge_that_is_none_of_the_sheet(self):
        for sheet in (new_sheet(), handed_sheet(), sealed(handed_sheet())):
            for judge in STRANGERS:
                self.check_refused(sheet, "UnknownJudge", sheet.card_of, judge)

    def test_a_judge_without_a_card(self):
        sheet = new_sheet()
        for judge in JUDGES:
            self.check_refused(sheet, "NoCard", sheet.card_of, judge)
        sheet = handed_sheet()
        self.assertEqual(refusal_of(sheet.hand_in, "bo", [17]), only("BadCard"))
        self.check_refused(sheet, "NoCard", sheet.card_of, "bo")

    def test_the_kinds(self):
        sheet = handed_sheet()
        for ask in (sheet.couples, sheet.struck, sheet.judges, sheet.handed, sheet.cards):
            self.assertIs(type(ask()), list)
        self.assertEqual([type(card) for card in sheet.cards()], [list, list])
        self.assertIs(type(sheet.card_of("anna")), list)
        self.assertIs(type(sheet.taken()), int)
        self.assertIs(type(sheet.is_sealed()), bool)

    def test_each_list_is_the_askers_own(self):
        sheet = handed_sheet()
        sheet.strike(230)
        asks = [sheet.couples, sheet.struck, sheet.judges, sheet.handed, sheet.cards, lambda: sheet.card_of("anna"),
                lambda: sheet.cards()[0], lambda: sheet.cards()[1]]
        before = told(sheet)
        for ask in asks:
            others = [each() for each in asks]
            hoped = [list(other) for other in others]
            answer = ask()
            answer.reverse()
            answer.append(answer[0])
            answer[0] = 77
            self.assertEqual(told(sheet), before)
            self.assertEqual(others, hoped)
            answer.clear()
            self.assertEqual(told(sheet), before)
            self.assertEqual(others, hoped)

    def test_each_card_within_the_cards_is_the_askers_own(self):
        sheet = handed_sheet()
        before, other, card = told(sheet), sheet.cards(), sheet.card_of("anna")
        answer = sheet.cards()
        for each in answer:
            each.clear()
        self.assertEqual((other, card), (before["cards"], before["cards"][1]))
        self.assertEqual(told(sheet), before)

    def test_empty_lists_are_the_askers_own(self):
        sheet = new_sheet()
        before = told(sheet)
        for ask in (sheet.struck, sheet.handed, sheet.cards):
            ask().append(5)
            self.assertEqual(told(sheet), before)

    def test_what_was_told_does_not_change_by_later_deeds(self):
        sheet = handed_sheet()
        sheet.strike(230)
        before = told(sheet)
        sheet.hand_in("bo", [17, 9, 4])
        sheet.hand_in("anna", [17, 9, 4])
        sheet.strike(17)
        sheet.seal()
        self.assertEqual(before, {
            "couples": [17, 4, 9], "struck": [230], "judges": JUDGES, "handed": ["dora", "anna"],
            "cards": [[4, 17, 9], [9, 17, 4]], "card_of": [[4, 17, 9], "NoCard", [9, 17, 4], "UnknownJudge"],
            "taken": 2, "is_sealed": False,
        })

    def test_no_question_changes_a_sheet(self):
        for sheet in (new_sheet(), handed_sheet(), sealed(full_sheet())):
            before = told(sheet)
            for again in range(3):
                self.assertEqual(told(sheet), before)

    def test_a_refused_deed_leaves_all_later_ones_as_they_were(self):
        sheet, other = handed_sheet(), handed_sheet()
        for judge in STRANGERS:
            refusal_of(sheet.hand_in, judge, list(COUPLES))
        for card in BAD_CARDS:
            refusal_of(sheet.hand_in, "bo", card)
        for couple in NO_COUPLES:
            refusal_of(sheet.strike, couple)
        for each in (sheet, other):
            each.strike(230)
            each.hand_in("bo", [4, 9, 17])
            each.strike(4)
        self.assertEqual(told(sheet), told(other))


class TwoSheets(unittest.TestCase):
    def test_of_the_same_lists(self):
        couples, judges, card = list(COUPLES), list(JUDGES), [9, 17, 230, 4]
        one, other = Sheet(couples, judges), Sheet(couples, judges)
        untouched = told(other)
        one.hand_in("bo", card)
        self.assertEqual(told(other), untouched)
        other.hand_in("bo", card)
        untouched = told(other)
        one.strike(17)
        one.hand_in("anna", [4, 9, 230])
        one.seal()
        self.assertEqual(told(other), untouched)
        self.assertEqual(other.card_of("bo"), [9, 17, 230, 4])
        other.strike(9)
        self.assertEqual((one.couples(), one.struck(), one.taken()), ([4, 230, 9], [17], 2))
        self.assertEqual((couples, judges, card), (COUPLES, JUDGES, [9, 17, 230, 4]))

    def test_of_what_the_other_one_tells(self):
        one = handed_sheet()
        other = Sheet(one.couples(), one.judges())
        other.hand_in("anna", one.card_of("anna"))
        other.strike(9)
        self.assertEqual(told(one), told(handed_sheet()))


if __name__ == "__main__":
    unittest.main()
