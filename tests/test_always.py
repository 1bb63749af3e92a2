"""What always holds of the places (points 28 to 32), on small panels in whole and on some larger ones."""

import itertools
import unittest

from helper import ANNA, BO, COUPLES, DORA, JUDGES, PANEL
from helper import asked, counted, first_by_trying, marks_by_hand, mixed, mixed_cards, outcome, panels
from helper import refusal_of, sheet_of
from panelplace.asking import deciders, firsts, left_out, partings, places, ranking, step_up
from panelplace.sheet import Sheet

CARDS = {"dora": DORA, "bo": BO, "anna": ANNA}
# Two that share a place are among these cards.
SHARING = {"dora": [9, 17, 4, 230], "bo": [17, 9, 230, 4], "anna": [9, 17, 230, 4], "eve": [17, 9, 4, 230]}


def small_panels(most_of_four):
    """(couples, cards): all panels of two, of three and of four couples and few cards."""
    for couples, most in (([8, 3], 6), ([7, 2, 9], 4), ([6, 1, 8, 4], most_of_four)):
        for many in range(1, most + 1):
            for cards in panels(couples, many):
                yield couples, [list(card) for card in cards]


def large_panels():
    for many, judges in ((5, 3), (6, 4), (7, 7), (9, 15), (12, 5), (24, 2), (24, 15)):
        for turn in range(3):
            couples = mixed(list(range(1, many + 1)), turn)
            yield couples, mixed_cards(couples, judges, turn)
            # Cards that differ little from one another.
            yield couples, [swapped(couples, (5 * k + turn) % (many - 1)) for k in range(judges)]


def all_panels(most_of_four=2):
    return itertools.chain(small_panels(most_of_four), large_panels())


def swapped(card, k):
    return card[:k] + [card[k + 1], card[k]] + card[k + 2:]


def place_by_couple(sheet):
    return dict(zip(sheet.couples(), places(sheet)))


def gist(sheet, judge_names=None, couple_names=None):
    """All that point 28 speaks of, told in a form without order, under other names if these are handed in."""
    judge_names = judge_names or {judge: judge for judge in sheet.judges()}
    couple_names = couple_names or {couple: couple for couple in sheet.couples()}
    couples = [couple_names[couple] for couple in sheet.couples()]
    rows = place_by_couple(sheet)
    steps = {}
    for judge, couple in itertools.product(sheet.judges(), sheet.couples()):
        answer = outcome(step_up, sheet, judge, couple)
        if not isinstance(answer, str):
            answer = couple_names[answer[0]], dict(zip(couples, answer[1]))
        steps[judge_names[judge], couple_names[couple]] = answer
    return {
        "places": dict(zip(couples, places(sheet))),
        "ranking": sorted([(place, couple_names[couple]) for place, couple in ranking(sheet)]),
        "partings": [(rows[one], rows[other], number, by) for one, other, number, by in partings(sheet)],
        "deciders": sorted([judge_names[judge] for judge in deciders(sheet)]),
        "steps": steps,
    }


class HistoryCountsNowhere(unittest.TestCase):
    def check_all(self, sheet, cards):
        plain = Sheet(COUPLES, list(cards))
        for judge in cards:
            plain.hand_in(judge, cards[judge])
        self.assertEqual(asked(sheet), asked(plain))

    def test_cards_in_another_order(self):
        for cards in (CARDS, SHARING):
            for order in itertools.permutations(cards):
                sheet = Sheet(COUPLES, list(cards))
                for judge in order:
                    sheet.hand_in(judge, cards[judge])
                self.check_all(sheet, cards)

    def test_cards_twice_and_more_often(self):
        for cards in (CARDS, SHARING):
            sheet = Sheet(COUPLES, list(cards))
            for judge in list(cards) * 3 + list(cards)[:1] * 100:
                sheet.hand_in(judge, cards[judge])
            self.check_all(sheet, cards)

    def test_cards_that_were_replaced(self):
        for turn in range(20):
            sheet = Sheet(COUPLES, PANEL)
            for judge in mixed(PANEL, turn) + mixed(PANEL, turn + 1):
                sheet.hand_in(judge, mixed(COUPLES, turn + len(judge)))
            for judge in mixed(PANEL, turn + 2):
                sheet.hand_in(judge, CARDS[judge])
            self.check_all(sheet, CARDS)

    def test_what_was_refused(self):
        sheet = Sheet(COUPLES, PANEL)
        for judge in PANEL:
            refusal_of(sheet.hand_in, judge, [17, 4, 230])
            refusal_of(sheet.hand_in, "cleo", COUPLES)
            sheet.hand_in(judge, CARDS[judge])
            refusal_of(sheet.hand_in, judge, COUPLES + [5])
            refusal_of(sheet.strike, 5)
        self.check_all(sheet, CARDS)
        sheet.seal()
        refusal_of(sheet.hand_in, "bo", COUPLES)
        refusal_of(sheet.strike, 17)
        refusal_of(sheet.seal)
        self.check_all(sheet, CARDS)

    def test_too_many_cards(self):
        sheet = Sheet(COUPLES, PANEL)
        for judge in PANEL + ["anna"] * 197:
            sheet.hand_in(judge, CARDS[judge])
        self.assertEqual(refusal_of(sheet.hand_in, "dora", COUPLES), ["PanelError", "TooManyCards"])
        self.check_all(sheet, CARDS)


class StruckAheadOrBehind(unittest.TestCase):
    def struck_after(self, couple, many):
        """The couple is struck behind so many of the three cards and ahead of the others."""
        sheet = Sheet(COUPLES, PANEL)
        for k, judge in enumerate(PANEL):
            if k == many:
                sheet.strike(couple)
            sheet.hand_in(judge, [each for each in CARDS[judge] if each in sheet.couples()])
        if many == len(PANEL):
            sheet.strike(couple)
        return sheet

    def test_each_couple_at_each_time(self):
        for couple in COUPLES:
            left = [other for other in COUPLES if other != couple]
            never = Sheet(left, PANEL)
            for judge in PANEL:
                never.hand_in(judge, [other for other in CARDS[judge] if other != couple])
            for many in range(4):
                sheet = self.struck_after(couple, many)
                self.assertEqual(asked(sheet), asked(self.struck_after(couple, 0)))
                self.assertEqual(gist(sheet), gist(never))
                self.assertEqual((ranking(sheet), partings(sheet)), (ranking(never), partings(never)))
                self.assertEqual((places(sheet), deciders(sheet)), (places(never), deciders(never)))

    def test_two_couples_in_either_order(self):
        for one, other in itertools.permutations(COUPLES, 2):
            sheets = [Sheet(COUPLES, PANEL) for k in range(3)]
            sheets[1].strike(one)
            sheets[2].strike(one)
            sheets[2].strike(other)
            for sheet in sheets:
                for judge in PANEL:
                    sheet.hand_in(judge, [couple for couple in CARDS[judge] if couple in sheet.couples()])
            sheets[0].strike(other)
            sheets[0].strike(one)
            sheets[1].strike(other)
            self.assertEqual(gist(sheets[0]), gist(sheets[2]))
            self.assertEqual(gist(sheets[1]), gist(sheets[2]))


class NamesAndOrders(unittest.TestCase):
    def test_other_names_and_another_order_of_judges(self):
        for cards in (CARDS, SHARING):
            hoped = gist(sheet_of(COUPLES, list(cards.values()), list(cards)))
            for turn, order in enumerate(itertools.permutations(cards)):
                names = mixed(["zz", "a", "mo", "anna"], turn)[:len(order)]
                sheet = sheet_of(COUPLES, [cards[judge] for judge in order], names)
                self.assertEqual(gist(sheet, judge_names=dict(zip(names, order))), hoped)
                self.assertEqual([judge for judge in names if judge in deciders(sheet)], deciders(sheet))

    def test_other_numbers_and_another_order_of_couples(self):
        for cards in (CARDS, SHARING):
            hoped = gist(sheet_of(COUPLES, list(cards.values()), list(cards)))
            for turn, order in enumerate(itertools.permutations(COUPLES)):
                numbers = mixed([999, 1, 50, 17], turn)
                new_of, old_of = dict(zip(order, numbers)), dict(zip(numbers, order))
                renamed = [[new_of[couple] for couple in card] for card in cards.values()]
                sheet = sheet_of(numbers, renamed, list(cards))
                self.assertEqual(gist(sheet, couple_names=old_of), hoped)

    def test_which_of_several_is_named_as_a_neighbour(self):
        cards = list(SHARING.values())
        named = {}
        for order in itertools.permutations(COUPLES):
            for one, other, number, by in partings(sheet_of(list(order), cards)):
                named[one, other, number, by] = True
        self.assertEqual(sorted(named), [(9, 4, 2, "half"), (9, 230, 2, "half"), (17, 4, 2, "half"),
                                         (17, 230, 2, "half")])

    def test_larger_ones(self):
        for couples, cards in large_panels():
            if len(couples) < 20:
                hoped = gist(sheet_of(couples, cards))
                mixed_couples = mixed(couples, 8)
                turned = mixed(list(zip(JUDGES, cards)), 3)
                sheet = sheet_of(mixed_couples, [card for judge, card in turned], [judge for judge, card in turned])
                self.assertEqual(gist(sheet), hoped)


class HowFarAMarkCarries(unittest.TestCase):
    def test_a_couple_that_more_than_half_set_first(self):
        seen = 0
        for couples, cards in all_panels():
            for couple in couples:
                if 2 * len([card for card in cards if card[0] == couple]) > len(cards):
                    seen += 1
                    self.assertEqual(firsts(sheet_of(couples, cards)), [couple], cards)
        self.assertGreater(seen, 100)

    def test_just_more_than_half_and_last_on_all_others(self):
        for judges in range(1, 16):
            many = judges // 2 + 1
            cards = [[5, 6, 7]] * many + [[6, 7, 5]] * (judges - many)
            self.assertEqual(firsts(sheet_of([7, 6, 5], cards)), [5])

    def test_just_half_is_not_enough(self):
        self.assertEqual(firsts(sheet_of([5, 6, 7], [[5, 6, 7], [5, 6, 7], [6, 7, 5], [6, 7, 5]])), [6])

    def test_granted_a_number_by_more_than_half(self):
        reached = {}
        for couples, cards in all_panels():
            placed = place_by_couple(sheet_of(couples, cards))
            for couple in couples:
                marks = marks_by_hand(cards, couple)
                for k in range(1, len(couples) + 1):
                    if 2 * counted(marks, k)[0] > len(cards):
                        self.assertLess(placed[couple], 2 * k, (couple, cards))
                        reached[k, placed[couple] == 2 * k - 1] = True
        # The bound is no idle one: at 2 too there is somebody with the place directly below it.
        self.assertIn((1, True), reached)
        self.assertIn((2, True), reached)

    def test_a_place_is_no_better_than_the_first_number_allows(self):
        reached = {}
        for couples, cards in all_panels(3):
            placed = place_by_couple(sheet_of(couples, cards))
            for couple in couples:
                first = first_by_trying(marks_by_hand(cards, couple))
                bound = 2 * first - 1 - len(couples)
                self.assertGreaterEqual(placed[couple], bound, (couple, cards))
                if placed[couple] == bound:
                    reached[len(couples), first] = True
        self.assertIn((4, 3), reached)
        self.assertIn((3, 3), reached)

    def test_the_first_number_of_whoever_is_first(self):
        for couples, cards in all_panels():
            for couple in firsts(sheet_of(couples, cards)):
                first = first_by_trying(marks_by_hand(cards, couple))
                self.assertLessEqual(first, len(couples) // 2 + 1, cards)


class AheadOnEachCard(unittest.TestCase):
    def test_two_of_them(self):
        seen = 0
        for couples, cards in all_panels():
            placed = place_by_couple(sheet_of(couples, cards))
            marks = {couple: marks_by_hand(cards, couple) for couple in couples}
            for one, other in itertools.permutations(couples, 2):
                if all(own < others for own, others in zip(marks[one], marks[other])):
                    seen += 1
                    self.assertLess(first_by_trying(marks[one]), first_by_trying(marks[other]))
                    self.assertLess(placed[one], placed[other], cards)
        self.assertGreater(seen, 100)

    def test_directly_ahead_on_each_card_of_most(self):
        couples = list(range(1, 25))
        for turn in range(4):
            cards = mixed_cards(couples[2:], 15, turn)
            cards = [card[:k] + [1, 2] + card[k:] for k, card in enumerate(cards, start=turn)]
            sheet = sheet_of(couples, cards)
            self.assertLess(places(sheet)[0], places(sheet)[1])


class OneStepUp(unittest.TestCase):
    def check_step(self, before, couple, passed, after):
        """before and after are the places by couple."""
        self.assertLessEqual(after[couple], before[couple])
        self.assertGreaterEqual(after[passed], before[passed])
        for other in before:
            if other != couple and before[other] == before[couple]:
                self.assertLess(after[couple], after[other])
        others = [other for other in before if other not in (couple, passed)]
        for one, other in itertools.combinations(others, 2):
            self.assertEqual(before[one] < before[other], after[one] < after[other])
            self.assertEqual(before[one] == before[other], after[one] == after[other])

    def check_panel(self, couples, cards):
        sheet = sheet_of(couples, cards)
        before = place_by_couple(sheet)
        for judge, card in zip(JUDGES, cards):
            for ahead, couple in zip(card, card[1:]):
                passed, after = step_up(sheet, judge, couple)
                self.assertEqual(passed, ahead)
                self.check_step(before, couple, passed, dict(zip(couples, after)))

    def test_every_step_on_small_panels(self):
        for couples, cards in small_panels(3):
            self.check_panel(couples, cards)

    def test_larger_panels(self):
        for couples, cards in large_panels():
            if len(couples) < 20:
                self.check_panel(couples, cards)

    def test_one_that_shares_a_place_goes_ahead(self):
        sheet = sheet_of(COUPLES, list(SHARING.values()), list(SHARING))
        self.assertEqual(places(sheet), [1, 3, 3, 1])
        self.assertEqual(step_up(sheet, "dora", 17), (9, [1, 3, 3, 2]))
        self.assertEqual(step_up(sheet, "dora", 4), (17, [2, 3, 4, 1]))
        self.assertEqual(step_up(sheet, "eve", 230), (4, [1, 4, 3, 1]))


class ManySteps(unittest.TestCase):
    def moved(self, cards, couple, by, which):
        """The couple moved by so many places on the cards that are named, all others in the order they had."""
        result = []
        for k, card in enumerate(cards):
            others = [other for other in card if other != couple]
            place = card.index(couple) + (by if k in which else 0)
            place = max(0, min(len(others), place))
            result.append(others[:place] + [couple] + others[place:])
        return result

    def check_panel(self, couples, cards, some):
        before = place_by_couple(sheet_of(couples, cards))
        for couple, by, which in itertools.product(couples, (-len(couples), -2, -1, 1, 2, len(couples)), some):
            after = place_by_couple(sheet_of(couples, self.moved(cards, couple, by, which)))
            if by < 0:
                self.assertLessEqual(after[couple], before[couple])
            else:
                self.assertGreaterEqual(after[couple], before[couple])

    def test_small_panels(self):
        for couples, many in (([7, 2, 9], 3), ([6, 1, 8, 4], 2)):
            for cards in panels(couples, many):
                self.check_panel(couples, cards, [(0,), (1,), (0, 1)])

    def test_larger_panels(self):
        for couples, cards in large_panels():
            if len(couples) < 10:
                self.check_panel(couples, cards, [(0,), (1, 2), range(0, len(cards), 2), range(len(cards))])


def panels_with_room():
    return [(couples, cards) for couples, cards in all_panels() if len(couples) < 24]


class StrikingOneAtTheEnd(unittest.TestCase):
    def test_each_card_sets_it_last(self):
        for couples, cards in panels_with_room():
            sheet = sheet_of(couples[:1] + [500] + couples[1:], [card + [500] for card in cards])
            before = place_by_couple(sheet)
            self.assertEqual(before.pop(500), len(couples) + 1)
            sheet.strike(500)
            self.assertEqual(place_by_couple(sheet), before)

    def test_each_card_sets_it_first(self):
        for couples, cards in panels_with_room():
            sheet = sheet_of(couples[:1] + [500] + couples[1:], [[500] + card for card in cards])
            before = place_by_couple(sheet)
            self.assertEqual(before.pop(500), 1)
            sheet.strike(500)
            self.assertEqual(place_by_couple(sheet), {couple: before[couple] - 1 for couple in before})


class DoubledAndAlike(unittest.TestCase):
    def test_a_doubled_panel(self):
        for couples, cards in [panel for panel in all_panels() if len(panel[1]) < 8]:
            one = sheet_of(couples, cards)
            for doubled in (cards + cards, [card for card in cards for again in range(2)]):
                two = sheet_of(couples, doubled)
                self.assertEqual((places(two), partings(two)), (places(one), partings(one)))

    def test_all_cards_the_same(self):
        for many, judges in itertools.product((1, 2, 3, 11, 24), (1, 2, 3, 8, 15)):
            couples = mixed(list(range(1, many + 1)), judges)
            card = mixed(couples, many)
            sheet = sheet_of(couples, [card] * judges)
            self.assertEqual(places(sheet), [card.index(couple) + 1 for couple in couples])
            self.assertEqual(ranking(sheet), list(enumerate(card, start=1)))


class WhoDecides(unittest.TestCase):
    def test_nobody_where_one_is_set_first_often_enough(self):
        seen = 0
        for couples, cards in all_panels():
            most = max([len([card for card in cards if card[0] == couple]) for couple in couples])
            if len(cards) > 1 and 2 * most > len(cards) + 1:
                seen += 1
                self.assertEqual(deciders(sheet_of(couples, cards)), [], cards)
        self.assertGreater(seen, 50)

    def test_one_less_is_not_enough(self):
        # Twice two is not more than three and one.
        self.assertEqual(deciders(sheet_of([5, 6], [[5, 6], [5, 6], [6, 5]])), ["ja", "jb"])
        self.assertEqual(deciders(sheet_of([5, 6], [[5, 6], [5, 6], [5, 6], [6, 5]])), [])

    def test_two_that_share_a_place_with_each_card_left_out(self):
        seen = 0
        for couples, cards in all_panels(3):
            sheet = sheet_of(couples, cards)
            now = places(sheet)
            sharing = [pair for pair in itertools.combinations(range(len(couples)), 2) if now[pair[0]] == now[pair[1]]]
            for judge in JUDGES[:len(cards)] if sharing else []:
                then = left_out(sheet, judge)
                for one, other in sharing:
                    seen += 1
                    self.assertNotEqual(then[one], then[other], cards)
        self.assertGreater(seen, 100)

    def test_each_judge_with_a_card_where_several_are_first(self):
        seen = 0
        for couples, cards in all_panels(3):
            # Up to two judges more, who hand in no card, never decide.
            sheet = sheet_of(couples, cards, (JUDGES[:len(cards)] + ["za", "zb"])[:15])
            if len(firsts(sheet)) > 1:
                seen += 1
                self.assertEqual(deciders(sheet), JUDGES[:len(cards)], cards)
        self.assertGreater(seen, 50)


if __name__ == "__main__":
    unittest.main()
