"""panelplace.reading: how a row of the desk is read (point 34)."""

import itertools
import unittest

from helper import only, refusal_of
from panelplace.reading import read_row

# (the row, what is read): each of the eleven forms.
FORMS = [
    ("card bo 17 4 230", ("card", "bo", [17, 4, 230])),
    ("strike 17", ("strike", "", [17])),
    ("seal", ("seal", "", [])),
    ("couples", ("couples", "", [])),
    ("places", ("places", "", [])),
    ("parts", ("parts", "", [])),
    ("deciders", ("deciders", "", [])),
    ("show bo", ("show", "bo", [])),
    ("leave bo", ("leave", "bo", [])),
    ("step bo 17", ("step", "bo", [17])),
    ("row 17", ("row", "", [17])),
]
# Words that are any word for a judge, and no COUPLE unless they are figures.
WORDS = ["bo", "anna", "a", "zzzzzzzzz", "Anna", "17", "0", "007", "card", "seal", "step", "row", "|", "~", "!", "-5",
         "a.b", "_", "'", '"', "\\", "{}", "%d", "1/2", "k" * 290]
COUPLE_WORDS = [("1", 1), ("9", 9), ("10", 10), ("17", 17), ("90", 90), ("99", 99), ("100", 100), ("909", 909),
                ("999", 999)]
NO_COUPLE_WORDS = ["0", "07", "00", "007", "000", "1000", "0999", "9999", "-5", "+5", "1_0", "_1", "1_", "12a", "a12",
                   "1a2", "1.0", "1,0", ".5", "1e2", "0x1", "x", "bo", "card", "|", "~", "/", ":", "1/", "1:",
                   "5" * 290, "k" * 290, "0" * 290, "-", "+", "--5", "1-", "1+1", "(1)", "'1'", "%", "\\"]
# Rows of one COUPLE each, in whose place another word may stand.
COUPLE_ROWS = ["strike {}", "row {}", "step bo {}", "card bo {}", "card bo 1 {}", "card bo {} 1", "card bo 1 {} 2"]


class Read(unittest.TestCase):
    def test_each_form(self):
        for row, hoped in FORMS:
            self.assertEqual(read_row(row), hoped)

    def test_a_card_with_none_one_and_many(self):
        self.assertEqual(read_row("card bo"), ("card", "bo", []))
        self.assertEqual(read_row("card bo 5"), ("card", "bo", [5]))
        self.assertEqual(read_row("card bo 5 5 5 7 5"), ("card", "bo", [5, 5, 5, 7, 5]))
        many = list(range(976, 1000))
        self.assertEqual(read_row("card bo " + " ".join(map(str, many))), ("card", "bo", many))
        self.assertEqual(read_row("card bo" + " 9" * 24), ("card", "bo", [9] * 24))
        self.assertEqual(read_row("card bo" + " 8" * 146), ("card", "bo", [8] * 146))

    def test_the_couples(self):
        for word, number in COUPLE_WORDS:
            self.assertEqual(read_row("strike " + word), ("strike", "", [number]))
            self.assertEqual(read_row("row " + word), ("row", "", [number]))
            self.assertEqual(read_row("step bo " + word), ("step", "bo", [number]))
            self.assertEqual(read_row("card bo 3 " + word + " 4"), ("card", "bo", [3, number, 4]))

    def test_every_couple(self):
        for number in range(1, 1000):
            self.assertEqual(read_row("row " + str(number)), ("row", "", [number]))

    def test_a_judge_is_any_word(self):
        for word in WORDS:
            self.assertEqual(read_row("card " + word), ("card", word, []))
            self.assertEqual(read_row("card " + word + " 17"), ("card", word, [17]))
            self.assertEqual(read_row("show " + word), ("show", word, []))
            self.assertEqual(read_row("leave " + word), ("leave", word, []))
            self.assertEqual(read_row("step " + word + " 17"), ("step", word, [17]))

    def test_every_sign_is_a_judge(self):
        for sign in [chr(k) for k in range(33, 127)]:
            self.assertEqual(read_row("show " + sign), ("show", sign, []))

    def test_the_kinds(self):
        for row, hoped in FORMS + [("card 17 5", ("card", "17", [5]))]:
            answer = read_row(row)
            self.assertIs(type(answer), tuple)
            self.assertEqual([type(part) for part in answer], [str, str, list])
            for couple in answer[2]:
                self.assertIs(type(couple), int)

    def test_the_list_is_a_new_one_each_time(self):
        for row, hoped in FORMS:
            one, other = read_row(row), read_row(row)
            one[2].append(5)
            one[2][0] = 77
            self.assertEqual((other, read_row(row)), (hoped, hoped))


class NotRead(unittest.TestCase):
    def check_bad(self, row):
        self.assertEqual(refusal_of(read_row, row), only("BadRow"), repr(row))

    def test_empty_and_blanks_alone(self):
        for many in (0, 1, 2, 3, 300):
            self.check_bad(" " * many)

    def test_a_blank_ahead_and_behind(self):
        for row, hoped in FORMS + [("card bo", ("card", "bo", []))]:
            for bad in (" " + row, row + " ", " " + row + " ", "  " + row, row + "  "):
                self.check_bad(bad)

    def test_two_blanks_between_words(self):
        for row, hoped in FORMS:
            parts = row.split(" ")
            for k in range(1, len(parts)):
                self.check_bad(" ".join(parts[:k]) + "  " + " ".join(parts[k:]))

    def test_another_first_word(self):
        for row, hoped in FORMS:
            first, blank, rest = row.partition(" ")
            for other in (first.upper(), first.capitalize(), first + "s", first[:-1], "x" + first, first + ".",
                          "place", "table", "1", "|", "k" * 290, "bo", first + first):
                self.check_bad(other + blank + rest)
        for word in WORDS:
            if word not in ("seal",):
                self.check_bad(word)

    def test_a_blank_within_the_first_word(self):
        for bad in ("pla ces", "s eal", "c ard bo 5", "ro w 5"):
            self.check_bad(bad)

    def test_words_parted_by_another_sign(self):
        for bad in ("strike,17", "strike_17", "strike-17", "show.bo", "step bo,17", "card bo 17,4", "card,bo 17",
                    "strike17", "row:5"):
            self.check_bad(bad)

    def test_a_word_too_few(self):
        for bad in ("card", "strike", "show", "leave", "step", "step bo", "step 17", "row"):
            self.check_bad(bad)

    def test_a_word_too_many(self):
        for row, hoped in FORMS[1:]:
            for word in ("17", "bo", row.split(" ")[0]):
                self.check_bad(row + " " + word)
                self.check_bad(row + " " + word + " " + word)
        self.check_bad("card bo 17 4 230 bo")

    def test_words_in_another_order(self):
        for bad in ("bo card 17", "17 strike", "card 17 bo", "step 17 bo", "bo show", "strike bo", "row bo"):
            self.check_bad(bad)

    def test_words_that_are_no_couple(self):
        for form, word in itertools.product(COUPLE_ROWS, NO_COUPLE_WORDS):
            self.check_bad(form.replace("{}", word))

    def test_every_other_sign_is_no_couple(self):
        for sign in [chr(k) for k in range(32, 127)]:
            if not "0" <= sign <= "9":
                for word in (sign, sign + "1", "1" + sign, "1" + sign + "1"):
                    self.check_bad("strike " + word)

    def test_an_empty_word(self):
        for form in COUPLE_ROWS:
            self.check_bad(form.replace("{}", ""))
        for bad in ("show ", "leave ", "card ", "step  17"):
            self.check_bad(bad)

    def test_a_word_of_three_hundred_signs(self):
        for sign in ("5", "a", "0", "~"):
            self.check_bad(sign * 300)

    def test_every_row_of_few_words(self):
        words = ["card", "strike", "seal", "show", "step", "bo", "5", "05"]
        forms = {
            "card": lambda rest: len(rest) > 0 and all(word == "5" for word in rest[1:]),
            "strike": lambda rest: rest == ["5"],
            "seal": lambda rest: rest == [],
            "show": lambda rest: len(rest) == 1,
            "step": lambda rest: len(rest) == 2 and rest[1] == "5",
        }
        for many in range(1, 5):
            for row in itertools.product(words, repeat=many):
                rest = list(row[1:])
                if row[0] in forms and forms[row[0]](rest):
                    judge = rest.pop(0) if row[0] in ("card", "show", "step") else ""
                    self.assertEqual(read_row(" ".join(row)), (row[0], judge, [5] * len(rest)))
                else:
                    self.check_bad(" ".join(row))


if __name__ == "__main__":
    unittest.main()
