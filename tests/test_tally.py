"""panelplace.tally: more than half (10), marks (11), count and sum (12), first number (13), ladder (14)."""

import itertools
import unittest

import helper
from panelplace.tally import first_number, granted, granted_sum, ladder_of, majority_of, marks_of

FIFTEEN = [24, 1, 7, 7, 13, 2, 24, 9, 1, 18, 5, 12, 7, 20, 3]


class MoreThanHalf(unittest.TestCase):
    def test_by_hand(self):
        hoped = {0: 1, 1: 1, 2: 2, 3: 2, 4: 3, 5: 3, 14: 8, 15: 8, 200: 101, 10 ** 30: 5 * 10 ** 29 + 1}
        for many in hoped:
            self.assertEqual(majority_of(many), hoped[many])

    def test_the_least_that_is_greater_than_half(self):
        for many in list(range(200)) + [10 ** 30 + 1, 10 ** 5000, 10 ** 5000 + 1]:
            half = majority_of(many)
            self.assertTrue(2 * half > many >= 2 * (half - 1))


class Marks(unittest.TestCase):
    def test_by_hand(self):
        cards = [[5, 8, 2], [8, 2, 5], [2, 8, 5], [5, 8, 2]]
        self.assertEqual(marks_of(cards, 5), [1, 3, 3, 1])
        self.assertEqual(marks_of(cards, 8), [2, 1, 2, 2])
        self.assertEqual(marks_of(cards, 2), [3, 2, 1, 3])

    def test_of_no_card(self):
        self.assertEqual(marks_of([], 5), [])

    def test_first_in_the_middle_and_last_on_the_only_card(self):
        self.assertEqual([marks_of([[30, 4, 999]], couple) for couple in (30, 4, 999)], [[1], [2], [3]])
        self.assertEqual(marks_of([[7]], 7), [1])

    def test_fifteen_cards(self):
        couples = list(range(101, 125))
        alike = [couples] * 15
        for couple, mark in ((101, 1), (112, 12), (124, 24)):
            self.assertEqual(marks_of(alike, couple), [mark] * 15)
        turned = [couples[-k:] + couples[:-k] for k in range(1, 16)]
        self.assertEqual(marks_of(turned, 101), list(range(2, 17)))

    def test_mixed_cards(self):
        couples = mixed_couples(24)
        cards = helper.mixed_cards(couples, 15, 3)
        for couple in couples:
            self.assertEqual(marks_of(cards, couple), helper.marks_by_hand(cards, couple))

    def test_the_cards_stay_and_the_list_is_new(self):
        cards = [[5, 8, 2], [8, 2, 5]]
        one, other = marks_of(cards, 5), marks_of(cards, 5)
        one.append(9)
        one[0] = 77
        self.assertEqual(other, [1, 3])
        self.assertEqual(cards, [[5, 8, 2], [8, 2, 5]])
        cards[0].reverse()
        self.assertEqual(other, [1, 3])


class CountAndSum(unittest.TestCase):
    def check(self, marks, number, count, total):
        before = list(marks)
        self.assertEqual((granted(marks, number), granted_sum(marks, number)), (count, total), (marks, number))
        self.assertEqual(marks, before)

    def test_no_marks(self):
        for number in (0, 1, 12, 24):
            self.check([], number, 0, 0)

    def test_one_mark(self):
        for number, count, total in ((0, 0, 0), (4, 0, 0), (5, 1, 5), (6, 1, 5), (24, 1, 5)):
            self.check([5], number, count, total)

    def test_at_and_between_marks_in_any_order(self):
        for marks in itertools.permutations([3, 5, 5, 9]):
            for number, count, total in (
                    (0, 0, 0), (2, 0, 0), (3, 1, 3), (4, 1, 3), (5, 3, 13), (7, 3, 13), (9, 4, 22), (24, 4, 22)):
                self.check(list(marks), number, count, total)

    def test_all_alike(self):
        self.check([6] * 15, 5, 0, 0)
        self.check([6] * 15, 6, 15, 90)
        self.check([24] * 15, 23, 0, 0)
        self.check([24] * 15, 24, 15, 360)

    def test_fifteen_unlike(self):
        marks = list(range(15, 0, -1))
        for number in range(25):
            most = min(number, 15)
            self.check(marks, number, most, most * (most + 1) // 2)

    def test_fifteen_at_every_number(self):
        for number in range(25):
            self.check(FIFTEEN, number, *helper.counted(FIFTEEN, number))


class FirstNumber(unittest.TestCase):
    def test_by_hand(self):
        for marks, number in (
                ([1], 1), ([24], 24), ([2, 5], 5), ([5, 2], 5), ([4, 4], 4), ([1, 2, 9], 2), ([9, 1, 2], 2),
                ([1, 1, 2, 3], 2), ([1, 2, 3, 4], 3), ([1, 1, 8, 8], 8), ([3, 3, 1, 1, 9], 3), ([1, 1, 1, 7, 7], 1),
                ([24] * 15, 24), (list(range(1, 16)), 8), (list(range(14, 0, -1)), 8)):
            self.assertEqual(first_number(marks), number, marks)

    def test_all_short_marks(self):
        for many in range(1, 6):
            for marks in itertools.product(range(1, 5), repeat=many):
                self.assertEqual(first_number(list(marks)), helper.first_by_trying(marks), marks)

    def test_the_marks_stay(self):
        marks = list(FIFTEEN)
        self.assertEqual(first_number(marks), helper.first_by_trying(FIFTEEN))
        self.assertEqual(marks, FIFTEEN)


class Ladder(unittest.TestCase):
    def test_by_hand(self):
        self.assertEqual(ladder_of([3, 1, 2], 3), [(1, 1), (2, 3), (3, 6)])
        self.assertEqual(ladder_of([2, 2, 5], 4), [(0, 0), (2, 4), (2, 4), (2, 4)])

    def test_up_to_nought_and_one(self):
        for marks in ([], [1], [2], FIFTEEN):
            self.assertEqual(ladder_of(marks, 0), [])
            self.assertEqual(ladder_of(marks, 1), [helper.counted(marks, 1)])

    def test_up_to_most(self):
        for marks in ([], [24], FIFTEEN, [6] * 15):
            self.assertEqual(ladder_of(marks, 24), [helper.counted(marks, number) for number in range(1, 25)])

    def test_of_no_marks(self):
        self.assertEqual(ladder_of([], 3), [(0, 0), (0, 0), (0, 0)])

    def test_the_marks_stay_and_the_list_is_new(self):
        marks = [3, 1, 2]
        one, other = ladder_of(marks, 2), ladder_of(marks, 2)
        one.clear()
        self.assertEqual(other, [(1, 1), (2, 3)])
        self.assertEqual(marks, [3, 1, 2])
        ladder_of(marks, 0).append(5)
        self.assertEqual(ladder_of(marks, 0), [])


def mixed_couples(many):
    return helper.mixed(list(range(976, 976 + many)), 5)


if __name__ == "__main__":
    unittest.main()
