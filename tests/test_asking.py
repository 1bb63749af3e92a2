"""panelplace.asking: the places (24), one card left out (25), who decides (26), one step up (27)."""

import itertools
import unittest

from helper import ANNA, BO, COUPLES, DORA, JUDGES, PANEL, with_anna, with_none, with_three, with_two
from helper import asked, held_together, marks_by_hand, mixed, mixed_cards, only, outcome, panels, places_by_hand
from helper import refusal_of, sheet_of, told
from panelplace.asking import deciders, firsts, left_out, partings, places, ranking, step_up
from panelplace.sheet import Sheet

HUGE = 10 ** 5000
STRANGERS = ["", "cleo", "Bo", "bo ", " bo", "b", "dora bo", "~", "k" * 300]
NO_COUPLES = [0, -1, 1, 18, 999, 1000, -17, 10 ** 30, -(10 ** 30), HUGE, -HUGE]
QUESTIONS = (places, ranking, firsts, partings)


def by_hand(cards, couples):
    """Places, ranking, who is first and the partings by the tests' own way of telling them."""
    placed = places_by_hand(cards, couples)
    rows = sorted([(place, k) for k, place in enumerate(placed)])
    neighbours = [(couples[one[1]], couples[other[1]]) for one, other in zip(rows, rows[1:])]
    parts = [(one, other, held_together(marks_by_hand(cards, one), marks_by_hand(cards, other))[1])
             for one, other in neighbours]
    return {
        "places": placed,
        "ranking": [(place, couples[k]) for place, k in rows],
        "firsts": [couples[k] for place, k in rows if place == 1],
        "partings": [(one, other) + what for one, other, what in parts if what is not None],
    }


def deciders_by_hand(cards, couples, judges):
    now = by_hand(cards, couples)["firsts"]
    return [judge for k, judge in enumerate(judges) if by_hand(cards[:k] + cards[k + 1:], couples)["firsts"] != now]


class AskingTest(unittest.TestCase):
    def check_refused(self, sheet, name, ask, *handed_in):
        before = told(sheet)
        self.assertEqual(refusal_of(ask, sheet, *handed_in), only(name))
        self.assertEqual(told(sheet), before)

    def check_told(self, sheet, hoped):
        answers = {"places": places(sheet), "ranking": ranking(sheet), "firsts": firsts(sheet),
                   "partings": partings(sheet)}
        self.assertEqual(answers, hoped)


class Places(AskingTest):
    def test_no_card_in(self):
        shut, struck, refused = with_none(), with_none(), with_none()
        shut.seal()
        struck.strike(4)
        refusal_of(refused.hand_in, "bo", [17])
        for sheet in (with_none(), shut, struck, refused, Sheet([5], ["bo"])):
            for ask in QUESTIONS:
                self.check_refused(sheet, "TooFewCards", ask)

    def test_one_card(self):
        self.check_told(with_anna(), {
            "places": [2, 4, 3, 1], "ranking": [(1, 9), (2, 17), (3, 230), (4, 4)], "firsts": [9],
            "partings": [(9, 17, 1, "half"), (17, 230, 2, "half"), (230, 4, 3, "half")]})

    def test_one_couple(self):
        for many in (1, 2, 15):
            self.check_told(sheet_of([40], [[40]] * many), {
                "places": [1], "ranking": [(1, 40)], "firsts": [40], "partings": []})

    def test_a_judge_without_a_card_counts_nowhere(self):
        self.check_told(with_two(), {
            "places": [1, 3, 1, 3], "ranking": [(1, 17), (1, 230), (3, 4), (3, 9)], "firsts": [17, 230],
            "partings": [(230, 4, 3, "half")]})

    def test_a_judge_without_a_card_counts_not_for_the_half(self):
        cards = [[4, 9, 6], [4, 6, 9], [9, 4, 6]]
        hoped = {"places": [3, 1, 2], "ranking": [(1, 4), (2, 9), (3, 6)], "firsts": [4],
                 "partings": [(4, 9, 1, "half"), (9, 6, 2, "half")]}
        for judges in (PANEL, PANEL + ["cleo"], PANEL + ["cleo", "eve", "fay", "gus"]):
            self.check_told(sheet_of([6, 4, 9], cards, judges), hoped)

    def test_each_judge_with_a_card(self):
        self.check_told(with_three(), {
            "places": [1, 3, 4, 2], "ranking": [(1, 17), (2, 9), (3, 4), (4, 230)], "firsts": [17],
            "partings": [(17, 9, 3, "count"), (9, 4, 2, "half"), (4, 230, 3, "sum")]})

    def test_after_a_striking(self):
        sheet = with_three()
        sheet.strike(17)
        self.check_told(sheet, {
            "places": [2, 3, 1], "ranking": [(1, 9), (2, 4), (3, 230)], "firsts": [9],
            "partings": [(9, 4, 1, "half"), (4, 230, 2, "sum")]})
        sheet.strike(230)
        self.check_told(sheet, {
            "places": [2, 1], "ranking": [(1, 9), (2, 4)], "firsts": [9], "partings": [(9, 4, 1, "half")]})
        sheet.strike(9)
        self.check_told(sheet, {"places": [1], "ranking": [(1, 4)], "firsts": [4], "partings": []})

    def test_on_a_sealed_sheet(self):
        for sheet in (with_none(), with_anna(), with_two(), with_three()):
            before = asked(sheet)
            sheet.seal()
            self.assertEqual(asked(sheet), before)

    def test_after_a_card_was_replaced(self):
        sheet = with_two()
        sheet.hand_in("dora", ANNA)
        self.assertEqual((places(sheet), firsts(sheet)), ([2, 4, 3, 1], [9]))

    def test_several_first_in_the_order_of_the_couples_that_stand(self):
        for couples in itertools.permutations([7, 30, 5]):
            cards = [[7, 30, 5], [30, 5, 7], [5, 7, 30]]
            self.check_told(sheet_of(list(couples), cards), {
                "places": [1, 1, 1], "ranking": [(1, couple) for couple in couples], "firsts": list(couples),
                "partings": []})

    def test_shared_places_in_the_order_of_the_couples_that_stand(self):
        for couples in itertools.permutations([9, 30, 4, 7]):
            sheet = sheet_of(list(couples), [[9, 30, 4, 7], [9, 4, 30, 7]])
            one, other = [couple for couple in couples if couple in (30, 4)]
            self.assertEqual(ranking(sheet), [(1, 9), (2, one), (2, other), (4, 7)])
            self.assertEqual(places(sheet), [{9: 1, 30: 2, 4: 2, 7: 4}[couple] for couple in couples])
            self.assertEqual(partings(sheet), [(9, one, 1, "half"), (other, 7, 3, "half")])
            self.assertEqual(firsts(sheet), [9])

    def test_all_small_panels(self):
        couples = [7, 2, 9]
        for many in range(1, 5):
            for cards in panels(couples, many):
                self.check_told(sheet_of(couples, cards), by_hand(list(cards), couples))

    def test_up_to_most(self):
        for many, judges in ((2, 15), (5, 4), (6, 6), (12, 7), (24, 1), (24, 2), (24, 15)):
            for turn in range(4):
                couples = mixed(list(range(999, 999 - many, -1)), turn)
                cards = mixed_cards(couples, judges, turn)
                self.check_told(sheet_of(couples, cards), by_hand(cards, couples))


class LeftOut(AskingTest):
    def test_two_cards_in(self):
        self.assertEqual(left_out(with_two(), "dora"), [2, 4, 3, 1])
        self.assertEqual(left_out(with_two(), "anna"), [3, 1, 2, 4])

    def test_three_cards_in(self):
        self.assertEqual(left_out(with_three(), "dora"), [1, 3, 3, 1])
        self.assertEqual(left_out(with_three(), "bo"), [1, 3, 1, 3])
        self.assertEqual(left_out(with_three(), "anna"), [1, 1, 3, 3])

    def test_a_judge_that_is_none_of_the_sheet(self):
        for sheet in (with_none(), with_anna(), with_two(), with_three()):
            for judge in STRANGERS:
                self.check_refused(sheet, "UnknownJudge", left_out, judge)

    def test_a_judge_without_a_card(self):
        self.check_refused(with_two(), "NoCard", left_out, "bo")

    def test_one_card_in(self):
        sheet = with_anna()
        self.check_refused(sheet, "TooFewCards", left_out, "anna")
        for judge in ("dora", "bo"):
            self.check_refused(sheet, "NoCard", left_out, judge)

    def test_no_card_in(self):
        for judge in PANEL:
            self.check_refused(with_none(), "NoCard", left_out, judge)
        alone = Sheet([5], ["bo"])
        self.check_refused(alone, "NoCard", left_out, "bo")
        alone.hand_in("bo", [5])
        self.check_refused(alone, "TooFewCards", left_out, "bo")

    def test_after_a_striking_and_on_a_sealed_sheet(self):
        sheet = with_three()
        sheet.strike(17)
        sheet.seal()
        self.assertEqual(left_out(sheet, "dora"), [2, 2, 1])
        self.assertEqual(left_out(sheet, "bo"), [2, 1, 2])
        self.assertEqual(left_out(sheet, "anna"), [1, 3, 2])
        self.check_refused(sheet, "UnknownJudge", left_out, "cleo")

    def test_as_if_that_judge_had_none(self):
        couples = [7, 2, 9]
        for many in range(2, 4):
            for cards in itertools.product(list(itertools.permutations(couples)), repeat=many):
                sheet = sheet_of(couples, cards)
                for k in range(many):
                    self.assertEqual(left_out(sheet, JUDGES[k]), places_by_hand(cards[:k] + cards[k + 1:], couples))

    def test_most(self):
        couples = list(range(24, 0, -1))
        cards = mixed_cards(couples, 15, 3)
        sheet = sheet_of(couples, cards)
        for k in range(15):
            self.assertEqual(left_out(sheet, JUDGES[k]), places_by_hand(cards[:k] + cards[k + 1:], couples))


class Deciders(AskingTest):
    def test_fewer_than_two_cards(self):
        shut = with_anna()
        shut.seal()
        for sheet in (with_none(), with_anna(), shut, Sheet([5], ["bo"]), sheet_of([5], [[5]])):
            self.check_refused(sheet, "TooFewCards", deciders)

    def test_two_cards(self):
        self.assertEqual(deciders(with_two()), ["dora", "anna"])
        self.assertEqual(deciders(sheet_of([1, 2, 3], [[1, 2, 3], [1, 3, 2]])), [])

    def test_nobody(self):
        for many in range(2, 16):
            self.assertEqual(deciders(sheet_of([1, 2, 3], [[2, 1, 3]] * many)), [])
            self.assertEqual(deciders(sheet_of([1], [[1]] * many)), [])

    def test_all(self):
        self.assertEqual(deciders(with_three()), PANEL)

    def test_one_alone_and_another_couple(self):
        # Without the second card couple 1 is first, not 2.
        self.assertEqual(deciders(sheet_of([1, 2, 3], [[1, 2, 3], [2, 3, 1]])), ["jb"])
        self.assertEqual(deciders(sheet_of([1, 2, 3], [[2, 3, 1], [1, 2, 3]])), ["ja"])
        self.assertEqual(deciders(sheet_of([3, 1, 2], [[1, 2, 3], [2, 3, 1]])), ["jb"])

    def test_more_couples_first(self):
        # Couple 5 is first by two cards of three; without one of these two it shares the place with 6.
        sheet = sheet_of([5, 6], [[5, 6], [5, 6], [6, 5]])
        self.assertEqual((firsts(sheet), left_out(sheet, "ja"), left_out(sheet, "jb")), ([5], [1, 1], [1, 1]))
        self.assertEqual(left_out(sheet, "jc"), [1, 2])
        self.assertEqual(deciders(sheet), ["ja", "jb"])

    def test_fewer_couples_first(self):
        sheet = sheet_of([5, 6], [[5, 6], [6, 5]])
        self.assertEqual((firsts(sheet), left_out(sheet, "ja"), left_out(sheet, "jb")), ([5, 6], [2, 1], [1, 2]))
        self.assertEqual(deciders(sheet), ["ja", "jb"])

    def test_fewer_couples_first_with_four_cards(self):
        # Two share the first place with four cards, and without one card it is one of them or the other.
        sheet = sheet_of([5, 6, 7], [[5, 6, 7], [6, 5, 7], [5, 6, 7], [6, 5, 7]])
        self.assertEqual(firsts(sheet), [5, 6])
        self.assertEqual(deciders(sheet), ["ja", "jb", "jc", "jd"])

    def test_places_that_change_behind_the_first_one_decide_nothing(self):
        sheet = sheet_of([1, 2, 3], [[1, 2, 3], [1, 3, 2], [1, 2, 3]])
        self.assertNotEqual(left_out(sheet, "ja"), places(sheet))
        self.assertEqual(deciders(sheet), [])

    def test_a_judge_without_a_card_never_decides(self):
        sheet = Sheet([1, 2, 3], ["zoe", "abe", "kim", "mia"])
        sheet.hand_in("kim", [2, 3, 1])
        sheet.hand_in("abe", [1, 2, 3])
        self.assertEqual(deciders(sheet), ["kim"])
        self.assertEqual(deciders(with_two()), ["dora", "anna"])

    def test_the_order_of_the_judges_and_not_that_of_handing_in(self):
        for judges in itertools.permutations(PANEL):
            for order in itertools.permutations(PANEL):
                sheet = Sheet(COUPLES, list(judges))
                for judge in order:
                    sheet.hand_in(judge, {"dora": DORA, "bo": BO, "anna": ANNA}[judge])
                self.assertEqual(deciders(sheet), list(judges))

    def test_after_a_striking_and_on_a_sealed_sheet(self):
        sheet = with_three()
        sheet.strike(17)
        sheet.seal()
        self.assertEqual(firsts(sheet), [9])
        self.assertEqual(deciders(sheet), ["bo", "anna"])

    def test_all_small_panels(self):
        couples = [7, 2, 9]
        seen = {}
        for many in range(2, 5):
            for cards in panels(couples, many):
                hoped = deciders_by_hand(list(cards), couples, JUDGES[:many])
                self.assertEqual(deciders(sheet_of(couples, cards)), hoped, cards)
                seen[len(hoped)] = True
        self.assertEqual(sorted(seen), [0, 1, 2, 3, 4])

    def test_up_to_most(self):
        for many, judges in ((2, 15), (6, 5), (12, 7), (24, 15)):
            couples = mixed(list(range(1, many + 1)), judges)
            cards = mixed_cards(couples, judges, many)
            self.assertEqual(deciders(sheet_of(couples, cards)), deciders_by_hand(cards, couples, JUDGES[:judges]))


class StepUp(AskingTest):
    def test_the_second_one_on_the_card(self):
        self.assertEqual(step_up(with_two(), "dora", 230), (4, [2, 4, 1, 3]))
        self.assertEqual(step_up(with_anna(), "anna", 17), (9, [1, 4, 3, 2]))

    def test_the_last_one_on_the_card(self):
        self.assertEqual(step_up(with_anna(), "anna", 4), (230, [2, 3, 4, 1]))
        self.assertEqual(step_up(with_two(), "dora", 9), (17, [4, 3, 2, 1]))

    def test_one_between(self):
        self.assertEqual(step_up(with_two(), "dora", 17), (230, [1, 3, 2, 3]))
        self.assertEqual(step_up(with_three(), "bo", 4), (9, [1, 2, 4, 3]))

    def test_two_couples(self):
        sheet = sheet_of([8, 3], [[3, 8], [3, 8]])
        self.assertEqual(step_up(sheet, "jb", 8), (3, [1, 1]))

    def test_the_first_one_on_the_card(self):
        for judge, couple in (("dora", 4), ("bo", 17), ("anna", 9)):
            self.check_refused(with_three(), "AtTop", step_up, judge, couple)
        self.check_refused(sheet_of([5], [[5]]), "AtTop", step_up, "ja", 5)

    def test_a_judge_that_is_none_of_the_sheet(self):
        for sheet in (with_none(), with_anna(), with_three()):
            for judge in STRANGERS:
                self.check_refused(sheet, "UnknownJudge", step_up, judge, 17)

    def test_a_judge_without_a_card(self):
        self.check_refused(with_two(), "NoCard", step_up, "bo", 17)
        for judge in PANEL:
            self.check_refused(with_none(), "NoCard", step_up, judge, 17)

    def test_a_couple_that_is_none(self):
        for sheet in (with_anna(), with_three()):
            for couple in NO_COUPLES:
                self.check_refused(sheet, "UnknownCouple", step_up, "anna", couple)

    def test_a_couple_that_was_struck(self):
        for couple in COUPLES:
            sheet = with_three()
            sheet.strike(couple)
            for judge in PANEL:
                self.check_refused(sheet, "UnknownCouple", step_up, judge, couple)

    def test_the_one_behind_a_struck_one(self):
        sheet = with_three()
        sheet.strike(4)
        self.check_refused(sheet, "AtTop", step_up, "dora", 230)
        self.assertEqual(step_up(sheet, "dora", 17), (230, [1, 3, 2]))
        self.assertEqual(step_up(sheet, "bo", 230), (9, [1, 2, 3]))

    def test_an_unknown_judge_and_another_refusal(self):
        sheet = with_two()
        sheet.strike(4)
        for couple in NO_COUPLES + [4, 230, 9]:
            self.check_refused(sheet, "UnknownJudge", step_up, "cleo", couple)
            self.check_refused(Sheet([230], ["bo"]), "UnknownJudge", step_up, "cleo", couple)

    def test_no_card_and_another_refusal(self):
        sheet = with_two()
        sheet.strike(4)
        for couple in NO_COUPLES + [4]:
            self.check_refused(sheet, "NoCard", step_up, "bo", couple)
            self.check_refused(with_none(), "NoCard", step_up, "bo", couple)

    def test_a_struck_couple_that_would_be_at_the_top(self):
        sheet = with_three()
        sheet.strike(17)
        self.check_refused(sheet, "UnknownCouple", step_up, "bo", 17)
        alone = sheet_of([5, 6], [[5, 6]])
        alone.strike(5)
        self.check_refused(alone, "UnknownCouple", step_up, "ja", 5)
        self.check_refused(alone, "AtTop", step_up, "ja", 6)

    def test_on_a_sealed_and_on_a_full_sheet(self):
        sheet = with_two()
        sheet.seal()
        self.assertEqual(step_up(sheet, "dora", 17), (230, [1, 3, 2, 3]))
        full = with_two()
        for k in range(198):
            full.hand_in("dora", DORA)
        self.assertEqual(step_up(full, "dora", 17), (230, [1, 3, 2, 3]))
        self.assertEqual(full.taken(), 200)

    def test_the_sheet_is_the_same_afterwards(self):
        sheet = with_three()
        before = told(sheet), asked(sheet)
        for judge, couple in itertools.product(PANEL, COUPLES):
            outcome(step_up, sheet, judge, couple)
            self.assertEqual((told(sheet), asked(sheet)), before)

    def test_as_if_the_stepped_card_were_handed_in(self):
        couples = [7, 2, 9, 5]
        for turn in range(30):
            cards = mixed_cards(couples, 1 + turn % 5, turn)
            sheet = sheet_of(couples, cards)
            for k, card in enumerate(cards):
                for place in range(1, 4):
                    stepped = list(card)
                    stepped[place - 1], stepped[place] = card[place], card[place - 1]
                    hoped = places_by_hand(cards[:k] + [stepped] + cards[k + 1:], couples)
                    self.assertEqual(step_up(sheet, JUDGES[k], card[place]), (card[place - 1], hoped))

    def test_most(self):
        couples = list(range(24, 0, -1))
        cards = mixed_cards(couples, 15, 5)
        sheet = sheet_of(couples, cards)
        stepped = cards[6][:22] + [cards[6][23], cards[6][22]]
        hoped = places_by_hand(cards[:6] + [stepped] + cards[7:], couples)
        self.assertEqual(step_up(sheet, "jg", cards[6][23]), (cards[6][22], hoped))


class OwnLists(AskingTest):
    def asks(self, sheet):
        return [lambda: places(sheet), lambda: ranking(sheet), lambda: firsts(sheet), lambda: partings(sheet),
                lambda: left_out(sheet, "dora"), lambda: deciders(sheet), lambda: step_up(sheet, "dora", 17)[1]]

    def test_each_list_is_the_askers_own(self):
        sheet = with_three()
        before = told(sheet), asked(sheet)
        for ask in self.asks(sheet):
            others = [each() for each in self.asks(sheet)]
            hoped = [list(other) for other in others]
            answer = ask()
            self.assertIs(type(answer), list)
            answer.reverse()
            answer.append(answer[0])
            answer[0] = 77
            self.assertEqual((told(sheet), asked(sheet)), before)
            self.assertEqual(others, hoped)
            answer.clear()
            self.assertEqual((told(sheet), asked(sheet)), before)
            self.assertEqual(others, hoped)

    def test_empty_lists_are_the_askers_own(self):
        sheet = sheet_of([5], [[5], [5]])
        for ask in (partings, deciders):
            ask(sheet).append(5)
            self.assertEqual(ask(sheet), [])

    def test_what_was_told_does_not_change_by_later_deeds(self):
        sheet, other = with_three(), with_three()
        answers = [ask() for ask in self.asks(sheet)]
        sheet.hand_in("bo", ANNA)
        sheet.strike(17)
        sheet.seal()
        self.assertEqual(answers, [ask() for ask in self.asks(other)])

    def test_no_question_changes_a_sheet(self):
        for sheet in (with_none(), with_anna(), with_two(), with_three()):
            before = told(sheet)
            answers = asked(sheet)
            for again in range(3):
                self.assertEqual(asked(sheet), answers)
                self.assertEqual(told(sheet), before)

    def test_two_sheets_share_nothing(self):
        one, other = with_three(), with_three()
        before = asked(other)
        one.strike(9)
        one.hand_in("anna", [4, 230, 17])
        one.seal()
        asked(one)
        self.assertEqual(asked(other), before)


if __name__ == "__main__":
    unittest.main()
