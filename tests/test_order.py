"""panelplace.order: who is ahead (15), the places and the ranking (16)."""

import itertools
import unittest

import helper
from panelplace.order import is_ahead, places_of, ranking_of

# (the marks of the one ahead, those of the other)
AHEAD = [
    # by the first number alone, though the other one has the greater count at a lesser number
    ([3, 3, 3, 9, 9], [1, 1, 4, 4, 4]),
    ([2, 2], [1, 3]),
    ([12, 12, 24], [1, 13, 13]),
    # one mark each
    ([1], [2]),
    ([23], [24]),
    # by count at the first number, though the sum is greater and a later number would say otherwise
    ([1, 2, 2, 2, 9], [2, 2, 2, 5, 5]),
    ([1, 2, 2, 2, 24], [1, 1, 2, 3, 3]),
    # by count at the first number, alike at each number above it
    ([1, 2, 2, 2, 9], [1, 1, 2, 3, 9]),
    # by count at the first number, alike at each number below it
    ([1, 3, 3, 3, 9], [1, 3, 3, 5, 5]),
    # by sum at the first number, though a later number would say otherwise
    ([1, 2, 2, 5, 5], [2, 2, 2, 5, 5]),
    ([1, 2, 3, 9, 9], [1, 3, 3, 4, 4]),
    ([9, 2, 3, 3], [3, 4, 3, 3]),
    # by count only at a later number, though one behind that would say otherwise
    ([1, 2, 2, 3, 9], [1, 2, 2, 4, 4]),
    ([1, 1, 1, 1, 5, 9], [1, 1, 1, 1, 8, 8]),
    ([1] * 8 + [24] * 6 + [23], [1] * 8 + [24] * 7),
]
# (the marks of two that are alike in all)
ALIKE = [
    ([1], [1]),
    ([24], [24]),
    ([1, 2, 3], [3, 1, 2]),
    ([5, 5, 1, 9], [1, 9, 5, 5]),
    # unlike below the first number alone, where nothing parts anybody
    ([1, 3, 3, 5, 5], [2, 2, 3, 5, 5]),
    ([1, 4, 4], [4, 1, 4]),
    ([1, 5, 5, 5], [2, 4, 5, 5]),
    ([7] * 15, [7] * 15),
]


class WhoIsAhead(unittest.TestCase):
    def test_by_hand(self):
        for one, other in AHEAD:
            self.assertIs(is_ahead(one, other), True, (one, other))
            self.assertIs(is_ahead(other, one), False, (one, other))

    def test_alike_in_all(self):
        for one, other in ALIKE:
            self.assertIs(is_ahead(one, other), False, (one, other))
            self.assertIs(is_ahead(other, one), False, (one, other))
            self.assertIs(is_ahead(one, list(one)), False, one)

    def test_one_and_other_the_same_list(self):
        for marks in ([1], [3, 1, 2], [24] * 15, list(range(1, 16))):
            self.assertIs(is_ahead(marks, marks), False)

    def test_all_short_marks(self):
        for many, most in ((1, 6), (2, 5), (3, 4), (4, 3), (5, 3)):
            lists = [list(marks) for marks in itertools.product(range(1, most + 1), repeat=many)]
            keys = [helper.standing(marks) for marks in lists]
            for one, own in zip(lists, keys):
                for other, key in zip(lists, keys):
                    self.assertIs(is_ahead(one, other), own < key, (one, other))

    def test_fifteen_marks(self):
        lists = [[mark % 24 + 1 for mark in helper.mixed(list(range(30)), turn)[:15]] for turn in range(40)]
        for one, other in itertools.product(lists, repeat=2):
            self.assertIs(is_ahead(one, other), helper.standing(one) < helper.standing(other), (one, other))

    def test_the_marks_stay(self):
        for one, other in AHEAD + ALIKE:
            first, second = list(one), list(other)
            is_ahead(first, second)
            self.assertEqual((first, second), (one, other))


class Places(unittest.TestCase):
    def test_one_couple(self):
        for many in (1, 2, 15):
            self.assertEqual(places_of([[17]] * many, [17]), [1])
            self.assertEqual(ranking_of([[17]] * many, [17]), [(1, 17)])

    def test_one_card(self):
        self.assertEqual(places_of([[5, 8, 2]], [2, 5, 8]), [3, 1, 2])
        self.assertEqual(ranking_of([[5, 8, 2]], [2, 5, 8]), [(1, 5), (2, 8), (3, 2)])

    def test_by_hand(self):
        cards = [[4, 9, 6], [4, 6, 9], [9, 4, 6]]
        self.assertEqual(places_of(cards, [6, 4, 9]), [3, 1, 2])
        self.assertEqual(ranking_of(cards, [6, 4, 9]), [(1, 4), (2, 9), (3, 6)])

    def test_all_alike_in_all(self):
        for couples in ([3, 1, 2], [50, 7], [9, 4, 6, 1, 8], list(range(99, 84, -1))):
            cards = [couples[k:] + couples[:k] for k in range(len(couples))]
            self.assertEqual(places_of(cards, couples), [1] * len(couples))
            self.assertEqual(ranking_of(cards, couples), [(1, couple) for couple in couples])

    def test_two_share_place_two(self):
        cards = [[9, 30, 4, 7], [9, 4, 30, 7]]
        for couples in itertools.permutations([9, 30, 4, 7]):
            sharing = [couple for couple in couples if couple in (30, 4)]
            hoped = {9: 1, 30: 2, 4: 2, 7: 4}
            self.assertEqual(places_of(cards, list(couples)), [hoped[couple] for couple in couples])
            self.assertEqual(
                ranking_of(cards, list(couples)), [(1, 9), (2, sharing[0]), (2, sharing[1]), (4, 7)])

    def test_several_share_several_places(self):
        cards = [[8, 1, 6, 3, 5], [1, 8, 5, 3, 6]]
        self.assertEqual(ranking_of(cards, [5, 8, 6, 3, 1]), [(1, 8), (1, 1), (3, 3), (4, 5), (4, 6)])
        self.assertEqual(places_of(cards, [5, 8, 6, 3, 1]), [4, 1, 4, 3, 1])

    def check_cards(self, cards, couples):
        hoped = places_by_name(cards, couples)
        self.assertEqual(places_of(cards, couples), [hoped[couple] for couple in couples], cards)
        rows = [(hoped[couple], k, couple) for k, couple in enumerate(couples)]
        self.assertEqual(ranking_of(cards, couples), [(place, couple) for place, k, couple in sorted(rows)], cards)

    def test_all_sets_of_few_cards(self):
        couples = [7, 2, 9]
        orders = [list(card) for card in itertools.permutations(couples)]
        for many in range(1, 5):
            for cards in itertools.combinations_with_replacement(orders, many):
                self.check_cards(list(cards), couples)

    def test_up_to_most(self):
        for many, judges in ((2, 15), (5, 4), (6, 6), (12, 7), (23, 14), (24, 1), (24, 2), (24, 15)):
            for turn in range(8):
                couples = helper.mixed(list(range(999, 999 - many, -1)), turn)
                self.check_cards(helper.mixed_cards(couples, judges, turn), couples)

    def test_most_in_one_order(self):
        couples = list(range(1, 25))
        self.assertEqual(places_of([couples[::-1]] * 15, couples), couples[::-1])
        self.assertEqual(ranking_of([couples[::-1]] * 15, couples), list(zip(couples, couples[::-1])))


class OwnLists(unittest.TestCase):
    def test_what_is_handed_in_stays(self):
        for ask in (places_of, ranking_of):
            cards, couples = [[9, 30, 4, 7], [9, 4, 30, 7]], [30, 7, 9, 4]
            ask(cards, couples)
            self.assertEqual(cards, [[9, 30, 4, 7], [9, 4, 30, 7]])
            self.assertEqual(couples, [30, 7, 9, 4])

    def test_the_lists_are_the_askers_own(self):
        for ask in (places_of, ranking_of):
            cards, couples = [[9, 30, 4, 7], [9, 4, 30, 7]], [30, 7, 9, 4]
            one, other = ask(cards, couples), ask(cards, couples)
            hoped = list(other)
            self.assertIs(type(one), list)
            one.reverse()
            one.append(5)
            self.assertEqual(other, hoped)
            self.assertEqual(ask(cards, couples), hoped)
            cards[0].reverse()
            couples.clear()
            self.assertEqual(other, hoped)


def places_by_name(cards, couples):
    return dict(zip(couples, helper.places_by_hand(cards, couples)))


if __name__ == "__main__":
    unittest.main()
