"""panelplace.cards: whole cards (6), the mark (7), a card without a couple (8), one step up (9)."""

import itertools
import unittest

from panelplace import errors
from panelplace.cards import mark_on, one_up, whole_card, without_couple

MOST = [900 - 37 * k for k in range(24)]
CARDS = [[7], [7, 3], [3, 7], [12, 999, 1], [5, 4, 3, 2, 1], MOST, sorted(MOST)]


def asked_places(card):
    return sorted({0, len(card) // 2, len(card) - 1})


class Whole(unittest.TestCase):
    def test_the_same_order(self):
        for couples in CARDS:
            self.assertIs(whole_card(list(couples), couples), True, couples)

    def test_every_other_order(self):
        couples = [17, 4, 230, 9]
        for card in itertools.permutations(couples):
            self.assertIs(whole_card(list(card), couples), True, card)
        self.assertIs(whole_card(MOST[::-1], MOST), True)
        self.assertIs(whole_card(MOST[5:] + MOST[:5], MOST), True)

    def test_one_left_out(self):
        for couples in CARDS:
            for place in range(len(couples)):
                card = couples[:place] + couples[place + 1:]
                self.assertIs(whole_card(card, couples), False, card)

    def test_one_doubled_in_the_place_of_another(self):
        for couples in CARDS:
            for place, other in itertools.permutations(range(len(couples)), 2):
                card = list(couples)
                card[place] = couples[other]
                self.assertIs(whole_card(card, couples), False, card)

    def test_one_doubled_besides(self):
        for couples in CARDS:
            for place in range(len(couples)):
                self.assertIs(whole_card(couples + [couples[place]], couples), False)
                self.assertIs(whole_card([couples[place]] + couples, couples), False)

    def test_all_doubled(self):
        for couples in CARDS:
            self.assertIs(whole_card(couples + couples, couples), False)

    def test_a_stranger_in_the_place_of_one(self):
        for couples in CARDS:
            for place in range(len(couples)):
                for stranger in (998, 0, -1, 1000, 10 ** 30, -(10 ** 30), -couples[place]):
                    card = list(couples)
                    card[place] = stranger
                    self.assertIs(whole_card(card, couples), False, card)

    def test_a_stranger_besides(self):
        for couples in CARDS:
            for stranger in (998, 0, -1, 1000, 10 ** 30, -(10 ** 30)):
                for place in asked_places(couples) + [len(couples)]:
                    card = couples[:place] + [stranger] + couples[place:]
                    self.assertIs(whole_card(card, couples), False, card)

    def test_strangers_of_the_same_sum(self):
        self.assertIs(whole_card([1, 4], [2, 3]), False)
        self.assertIs(whole_card([1, 1, 4], [1, 2, 3]), False)

    def test_an_empty_card(self):
        for couples in CARDS:
            self.assertIs(whole_card([], couples), False)

    def test_one_couple_alone(self):
        self.assertIs(whole_card([7], [7]), True)
        for card in ([], [8], [7, 7], [7, 8], [8, 7], [-7]):
            self.assertIs(whole_card(card, [7]), False, card)

    def test_a_list_of_three_hundred(self):
        self.assertIs(whole_card(list(range(1, 301)), list(range(1, 25))), False)
        self.assertIs(whole_card([7] * 300, [7]), False)

    def test_nothing_handed_in_changes(self):
        for card, couples in (([3, 1, 2], [2, 3, 1]), ([3, 1, 1], [2, 3, 1]), ([9, 8], [2, 3, 1])):
            card_before, couples_before = list(card), list(couples)
            whole_card(card, couples)
            self.assertEqual(card, card_before)
            self.assertEqual(couples, couples_before)


class Mark(unittest.TestCase):
    def test_by_hand(self):
        card = [12, 999, 1]
        self.assertEqual(mark_on(card, 12), 1)
        self.assertEqual(mark_on(card, 999), 2)
        self.assertEqual(mark_on(card, 1), 3)

    def test_each_couple_of_each_card(self):
        for card in CARDS:
            self.assertEqual([mark_on(card, couple) for couple in card], list(range(1, len(card) + 1)))

    def test_the_first_a_middle_and_the_last_of_most(self):
        self.assertEqual([mark_on(MOST, MOST[place]) for place in (0, 12, 23)], [1, 13, 24])

    def test_the_card_stays(self):
        for card in CARDS:
            before = list(card)
            for couple in before:
                mark_on(card, couple)
                self.assertEqual(card, before)


class Without(unittest.TestCase):
    def test_by_hand(self):
        card = [12, 999, 1]
        self.assertEqual(without_couple(card, 12), [999, 1])
        self.assertEqual(without_couple(card, 999), [12, 1])
        self.assertEqual(without_couple(card, 1), [12, 999])
        self.assertEqual(without_couple([7], 7), [])
        self.assertEqual(without_couple([7, 3], 7), [3])
        self.assertEqual(without_couple([7, 3], 3), [7])

    def test_each_couple_of_each_card(self):
        for card in CARDS:
            for place, couple in enumerate(card):
                self.assertEqual(without_couple(card, couple), card[:place] + card[place + 1:])

    def test_those_behind_move_up_by_one(self):
        for place in asked_places(MOST):
            left = without_couple(MOST, MOST[place])
            for other in MOST:
                if other != MOST[place]:
                    behind = MOST.index(other) > place
                    self.assertEqual(mark_on(left, other), mark_on(MOST, other) - (1 if behind else 0))

    def test_the_card_stays_and_the_list_is_new(self):
        for told_from in CARDS:
            for place in asked_places(told_from):
                card = list(told_from)
                told = without_couple(card, card[place])
                again = without_couple(card, card[place])
                self.assertIsInstance(told, list)
                self.assertEqual(card, told_from)
                told.append(555)
                told[0] = 556
                self.assertEqual(card, told_from)
                self.assertEqual(again, told_from[:place] + told_from[place + 1:])
                card.clear()
                self.assertEqual(again, told_from[:place] + told_from[place + 1:])


class OneUp(unittest.TestCase):
    def test_by_hand(self):
        card = [5, 4, 3, 2, 1]
        self.assertEqual(one_up(card, 4), [4, 5, 3, 2, 1])
        self.assertEqual(one_up(card, 3), [5, 3, 4, 2, 1])
        self.assertEqual(one_up(card, 2), [5, 4, 2, 3, 1])
        self.assertEqual(one_up(card, 1), [5, 4, 3, 1, 2])
        self.assertEqual(one_up([7, 3], 3), [3, 7])

    def test_each_couple_of_each_card_but_the_first(self):
        for card in CARDS:
            for place in range(1, len(card)):
                hoped = list(card)
                hoped[place - 1], hoped[place] = card[place], card[place - 1]
                self.assertEqual(one_up(card, card[place]), hoped)

    def test_the_one_passed_goes_back_where_it_was(self):
        for place in (1, 12, 23):
            self.assertEqual(one_up(one_up(MOST, MOST[place]), MOST[place - 1]), MOST)

    def test_the_card_stays_and_the_list_is_new(self):
        for told_from in CARDS:
            for place in asked_places(told_from):
                if place > 0:
                    self.check_own_list(told_from, place)

    def check_own_list(self, told_from, place):
        card = list(told_from)
        told = one_up(card, card[place])
        again = one_up(card, card[place])
        hoped = list(again)
        self.assertIsInstance(told, list)
        self.assertEqual(card, told_from)
        told.append(555)
        told[0] = 556
        self.assertEqual(card, told_from)
        self.assertEqual(again, hoped)
        card.clear()
        self.assertEqual(again, hoped)

    def test_the_first_one_is_refused(self):
        for told_from in CARDS:
            card = list(told_from)
            for above in (errors.AtTop, errors.PanelError, ValueError):
                with self.assertRaises(above):
                    one_up(card, card[0])
            self.assertEqual(card, told_from)

    def test_the_refusal_is_of_no_other_class(self):
        for card in CARDS:
            with self.assertRaises(errors.AtTop) as taken:
                one_up(card, card[0])
            classes = [kind for kind in vars(errors).values() if isinstance(kind, type)]
            held = {kind.__name__ for kind in classes if isinstance(taken.exception, kind)}
            self.assertEqual(held, {"AtTop", "PanelError"})


if __name__ == "__main__":
    unittest.main()
