"""panelplace.names: good couples (point 4) and good judges (point 5)."""

import unittest

from panelplace import names
from panelplace.names import good_couples, good_judges

LETTERS = "abcdefghijklmnopqrstuvwxyz"
BAD_SIGNS = [chr(code) for code in range(32, 127) if chr(code) not in LETTERS]


def some_judges(many):
    return ["judge" + LETTERS[k] for k in range(many)]


def with_one_at(things, place, thing):
    return things[:place] + [thing] + things[place + 1:]


class Written(unittest.TestCase):
    def test_the_four_values(self):
        self.assertEqual(names.MOST_COUPLES, 24)
        self.assertEqual(names.MOST_JUDGES, 15)
        self.assertEqual(names.MOST_NUMBER, 999)
        self.assertEqual(names.MOST_SIGNS, 8)


class Couples(unittest.TestCase):
    def test_ordinary_ones(self):
        self.assertIs(good_couples([17, 4, 230]), True)

    def test_any_order(self):
        for couples in ([1, 2, 3], [3, 2, 1], [2, 3, 1], list(range(999, 975, -1))):
            self.assertIs(good_couples(couples), True, couples)

    def test_how_many(self):
        for many in range(1, 25):
            self.assertIs(good_couples(list(range(1, many + 1))), True, many)
        for many in (0, 25, 26, 300):
            self.assertIs(good_couples(list(range(1, many + 1))), False, many)

    def test_each_number_by_itself(self):
        for number in range(1, 1000):
            self.assertIs(good_couples([number]), True, number)
        for number in (0, -1, -999, 1000, 1001, 10 ** 30, -(10 ** 30)):
            self.assertIs(good_couples([number]), False, number)

    def test_numbers_at_each_place(self):
        for many in (3, 24):
            couples = list(range(101, 101 + many))
            for place in (0, many // 2, many - 1):
                for number in (1, 999):
                    self.assertIs(good_couples(with_one_at(couples, place, number)), True, (place, number))
                for number in (0, -1, 1000, 10 ** 30, -(10 ** 30)):
                    self.assertIs(good_couples(with_one_at(couples, place, number)), False, (place, number))

    def test_two_alike(self):
        for couples in ([5, 5], [5, 5, 6], [6, 5, 5], [5, 6, 5], [5, 6, 7, 8, 5], [999, 1, 999]):
            self.assertIs(good_couples(couples), False, couples)

    def test_two_alike_among_most(self):
        couples = list(range(1, 25))
        for one, other in ((0, 1), (11, 12), (22, 23), (0, 23), (0, 12), (12, 23)):
            self.assertIs(good_couples(with_one_at(couples, other, couples[one])), False, (one, other))

    def test_more_than_most_that_hold_few(self):
        self.assertIs(good_couples([7] * 25), False)
        self.assertIs(good_couples([7] * 300), False)
        self.assertIs(good_couples(list(range(1, 25)) + [24]), False)


class Judges(unittest.TestCase):
    def test_ordinary_ones(self):
        self.assertIs(good_judges(["anna", "bo", "cleo"]), True)

    def test_any_order(self):
        for judges in (["a", "b", "c"], ["c", "b", "a"], ["b", "c", "a"]):
            self.assertIs(good_judges(judges), True, judges)

    def test_how_many(self):
        for many in range(1, 16):
            self.assertIs(good_judges(some_judges(many)), True, many)
        for many in (0, 16, 17, 26):
            self.assertIs(good_judges(some_judges(many)), False, many)

    def test_three_hundred(self):
        many = [one + other for one in LETTERS for other in LETTERS][:300]
        self.assertIs(good_judges(many), False)
        self.assertIs(good_judges(["a"] * 300), False)

    def test_how_many_signs(self):
        for many in range(1, 9):
            self.assertIs(good_judges(["k" * many]), True, many)
        for many in (0, 9, 10, 300):
            self.assertIs(good_judges(["k" * many]), False, many)

    def test_a_bad_length_at_each_place(self):
        for many in (3, 15):
            for place in (0, many // 2, many - 1):
                for name in ("", "k" * 9):
                    self.assertIs(good_judges(with_one_at(some_judges(many), place, name)), False, (place, name))

    def test_each_letter_at_each_place_of_a_name(self):
        for letter in LETTERS:
            for name in (letter, letter + "mm", "m" + letter + "m", "mm" + letter, letter * 8):
                self.assertIs(good_judges([name]), True, name)

    def test_no_other_sign_at_any_place_of_a_name(self):
        for sign in ("A", "Z", "{", "`", " ", "0", "-", "_"):
            self.assertIn(sign, BAD_SIGNS)
        for sign in BAD_SIGNS:
            for name in (sign, sign + "mm", "m" + sign + "m", "mm" + sign, "mmm" + sign + "mmmm", "m" * 7 + sign):
                self.assertIs(good_judges([name]), False, name)

    def test_a_bad_sign_at_each_place_of_the_list(self):
        for many in (3, 15):
            for place in (0, many // 2, many - 1):
                for name in ("Anna", "an na", "anna0", "ann{", "`nna"):
                    self.assertIs(good_judges(with_one_at(some_judges(many), place, name)), False, (place, name))

    def test_two_alike(self):
        for judges in (["a", "a"], ["a", "a", "b"], ["b", "a", "a"], ["a", "b", "a"], ["a", "b", "c", "d", "a"]):
            self.assertIs(good_judges(judges), False, judges)

    def test_two_alike_among_most(self):
        judges = some_judges(15)
        for one, other in ((0, 1), (7, 8), (13, 14), (0, 14), (0, 7), (7, 14)):
            self.assertIs(good_judges(with_one_at(judges, other, judges[one])), False, (one, other))

    def test_one_name_within_another_is_not_alike(self):
        self.assertIs(good_judges(["a", "aa", "aaa", "ab", "ba"]), True)


if __name__ == "__main__":
    unittest.main()
