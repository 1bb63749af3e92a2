"""panelplace.errors: thirteen classes, PanelError above the twelve others (point 3)."""

import unittest

from panelplace import errors

UNDER_PANEL_ERROR = [
    "BadCouples", "BadJudges", "SheetSealed", "UnknownJudge", "BadCard", "TooManyCards",
    "UnknownCouple", "LastCouple", "NoCard", "TooFewCards", "AtTop", "BadRow",
]


class Classes(unittest.TestCase):
    def test_panel_error_stands_straight_under_value_error(self):
        self.assertEqual(errors.PanelError.__bases__, (ValueError,))

    def test_each_other_one_stands_straight_under_panel_error(self):
        for name in UNDER_PANEL_ERROR:
            with self.subTest(name):
                self.assertEqual(getattr(errors, name).__bases__, (errors.PanelError,))

    def test_no_two_names_are_one_class(self):
        classes = {getattr(errors, name) for name in UNDER_PANEL_ERROR}
        self.assertEqual(len(classes), 12)

    def test_there_is_no_other_class(self):
        named = [name for name, kind in vars(errors).items() if isinstance(kind, type)]
        self.assertEqual(sorted(named), sorted(["PanelError"] + UNDER_PANEL_ERROR))

    def test_each_is_called_by_its_own_name(self):
        for name in ["PanelError"] + UNDER_PANEL_ERROR:
            self.assertEqual(getattr(errors, name).__name__, name)


class Taking(unittest.TestCase):
    def test_each_is_taken_by_its_name_and_those_above_alone(self):
        for name in UNDER_PANEL_ERROR:
            for other in UNDER_PANEL_ERROR:
                with self.subTest(name, other=other):
                    error = getattr(errors, name)("words")
                    self.assertIsInstance(error, errors.PanelError)
                    self.assertIsInstance(error, ValueError)
                    self.assertEqual(isinstance(error, getattr(errors, other)), name == other)

    def test_panel_error_itself_is_none_of_the_others(self):
        for name in UNDER_PANEL_ERROR:
            self.assertNotIsInstance(errors.PanelError("words"), getattr(errors, name))


if __name__ == "__main__":
    unittest.main()
