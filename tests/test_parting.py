"""panelplace.parting: what parts two couples (17), what parts neighbours (18)."""

import itertools
import unittest

import helper
from panelplace.parting import parting_of, partings_of

PARTED = [
    ([1], [2], (1, "half")),
    ([23], [24], (23, "half")),
    ([3, 3, 3, 9, 9], [1, 1, 4, 4, 4], (3, "half")),
    ([2, 2], [1, 3], (2, "half")),
    ([1, 2, 2, 2, 9], [2, 2, 2, 5, 5], (2, "count")),
    ([1, 2, 2, 2, 9], [1, 1, 2, 3, 9], (2, "count")),
    ([1, 3, 3, 3, 9], [1, 3, 3, 5, 5], (3, "count")),
    ([1, 2, 2, 5, 5], [2, 2, 2, 5, 5], (2, "sum")),
    ([1, 2, 3, 9, 9], [1, 3, 3, 4, 4], (3, "sum")),
    ([9, 2, 3, 3], [4, 3, 3, 3], (3, "sum")),
    ([1, 2, 2, 3, 9], [1, 2, 2, 4, 4], (3, "count")),
    ([1, 1, 1, 1, 5, 9], [1, 1, 1, 1, 8, 8], (5, "count")),
    ([1] * 8 + [24] * 6 + [23], [1] * 8 + [24] * 7, (23, "count")),
    ([5], [5], None),
    ([1, 2, 3], [3, 1, 2], None),
    ([1, 3, 3, 5, 5], [2, 2, 3, 5, 5], None),
    ([24] * 15, [24] * 15, None),
]


class TwoCouples(unittest.TestCase):
    def test_by_hand_from_either_side(self):
        for one, other, hoped in PARTED:
            self.assertEqual(parting_of(one, other), hoped, (one, other))
            self.assertEqual(parting_of(other, one), hoped, (other, one))

    def test_the_same_list(self):
        for marks in ([1], [3, 1, 2], list(range(1, 16))):
            self.assertIsNone(parting_of(marks, marks))

    def test_the_kinds(self):
        for one, other, hoped in PARTED:
            if hoped is not None:
                parting = parting_of(one, other)
                self.assertEqual([type(part) for part in parting], [int, str])
                self.assertIs(type(parting), tuple)

    def test_all_short_marks(self):
        for many, most in ((1, 6), (2, 5), (3, 4), (4, 3), (5, 3)):
            lists = [list(marks) for marks in itertools.product(range(1, most + 1), repeat=many)]
            for one, other in itertools.product(lists[::2], lists):
                self.assertEqual(parting_of(one, other), helper.held_together(one, other)[1], (one, other))

    def test_fifteen_marks(self):
        lists = [[mark % 24 + 1 for mark in helper.mixed(list(range(30)), turn)[:15]] for turn in range(25)]
        for one, other in itertools.product(lists, repeat=2):
            self.assertEqual(parting_of(one, other), helper.held_together(one, other)[1], (one, other))

    def test_the_marks_stay(self):
        for one, other, hoped in PARTED:
            first, second = list(one), list(other)
            parting_of(first, second)
            self.assertEqual((first, second), (one, other))


class Neighbours(unittest.TestCase):
    def test_one_couple_alone(self):
        for many in (1, 2, 15):
            self.assertEqual(partings_of([[17]] * many, [17]), [])

    def test_one_card(self):
        self.assertEqual(partings_of([[5, 8, 2]], [2, 5, 8]), [(5, 8, 1, "half"), (8, 2, 2, "half")])

    def test_all_alike_in_all(self):
        couples = [9, 4, 6, 1, 8]
        cards = [couples[k:] + couples[:k] for k in range(5)]
        self.assertEqual(partings_of(cards, couples), [])

    def test_two_that_share_a_place_in_the_middle(self):
        cards = [[9, 30, 4, 7], [9, 4, 30, 7]]
        self.assertEqual(partings_of(cards, [7, 30, 9, 4]), [(9, 30, 1, "half"), (4, 7, 3, "half")])
        self.assertEqual(partings_of(cards, [4, 7, 30, 9]), [(9, 4, 1, "half"), (30, 7, 3, "half")])

    def test_two_that_share_the_first_place(self):
        cards = [[30, 4, 7], [4, 30, 7]]
        self.assertEqual(partings_of(cards, [7, 30, 4]), [(4, 7, 2, "half")])
        self.assertEqual(partings_of(cards, [4, 7, 30]), [(30, 7, 2, "half")])

    def test_two_that_share_the_last_place(self):
        cards = [[7, 30, 4], [7, 4, 30]]
        self.assertEqual(partings_of(cards, [30, 7, 4]), [(7, 30, 1, "half")])
        self.assertEqual(partings_of(cards, [4, 30, 7]), [(7, 4, 1, "half")])

    def test_parted_by_count_and_by_sum(self):
        cards = [[1, 2, 3], [2, 1, 3], [1, 3, 2], [3, 2, 1], [2, 1, 3]]
        # Marks: 1 has 1 2 1 3 2, 2 has 2 1 3 2 1, 3 has 3 3 2 1 3.
        self.assertEqual(partings_of(cards, [3, 1, 2]), [(2, 3, 2, "half")])
        cards = [[1, 2, 3, 4], [2, 1, 4, 3], [4, 1, 3, 2]]
        # Marks: 1 has 1 2 2, 2 has 2 1 4, 3 has 3 4 3, 4 has 4 3 1.
        self.assertEqual(
            partings_of(cards, [1, 2, 3, 4]), [(1, 2, 2, "count"), (2, 4, 2, "half"), (4, 3, 3, "sum")])
        cards = [[1, 3, 2, 4], [4, 2, 1, 3], [2, 1, 3, 4]]
        # Marks: 1 has 1 3 2, 2 has 3 2 1, 3 has 2 4 3, 4 has 4 1 4; so 2 and 1 share the first place.
        self.assertEqual(partings_of(cards, [3, 2, 1, 4]), [(1, 3, 2, "half"), (3, 4, 3, "half")])

    def check_cards(self, cards, couples):
        places = dict(zip(couples, helper.places_by_hand(cards, couples)))
        ranked = sorted(couples, key=lambda couple: places[couple])
        hoped = []
        for one, other in zip(ranked, ranked[1:]):
            if places[one] != places[other]:
                marks = helper.marks_by_hand(cards, one), helper.marks_by_hand(cards, other)
                hoped.append((one, other) + helper.held_together(*marks)[1])
        self.assertEqual(partings_of(cards, couples), hoped, cards)
        return [row[3] for row in hoped]

    def test_all_sets_of_few_cards(self):
        couples = [7, 2, 9]
        orders = [list(card) for card in itertools.permutations(couples)]
        met = []
        for many in range(1, 6):
            for cards in itertools.combinations_with_replacement(orders, many):
                met += self.check_cards(list(cards), couples)
        self.assertEqual(set(met), {"half", "count", "sum"})

    def test_up_to_most(self):
        met = []
        for many, judges in ((2, 15), (5, 4), (6, 6), (12, 7), (23, 14), (24, 1), (24, 2), (24, 15)):
            for turn in range(8):
                couples = helper.mixed(list(range(999, 999 - many, -1)), turn)
                met += self.check_cards(helper.mixed_cards(couples, judges, turn), couples)
        self.assertEqual(set(met), {"half", "count", "sum"})

    def test_what_is_handed_in_stays_and_the_list_is_new(self):
        cards, couples = [[9, 30, 4, 7], [9, 4, 30, 7]], [30, 7, 9, 4]
        one, other = partings_of(cards, couples), partings_of(cards, couples)
        hoped = [(9, 30, 1, "half"), (4, 7, 3, "half")]
        self.assertEqual((cards, couples), ([[9, 30, 4, 7], [9, 4, 30, 7]], [30, 7, 9, 4]))
        one.clear()
        self.assertEqual(other, hoped)
        self.assertEqual(partings_of(cards, couples), hoped)
        cards[0].reverse()
        couples.clear()
        self.assertEqual(other, hoped)


if __name__ == "__main__":
    unittest.main()
