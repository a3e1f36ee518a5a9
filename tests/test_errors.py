"""The error classes of the interface."""

import unittest

from wright import errors

CLASHES = [(0, "a", [("step", 1), ("make", 2)]), (3, "", [("done",), ("make", 0)])]
VALUES = {
    "NoPattern": ("place", 3),
    "NoWord": ("place", 0),
    "NoRow": ("row", 1),
    "NoRules": None,
    "Twice": ("word", "a"),
    "Endless": ("names", ["A", "B"]),
    "Unmet": ("names", ["A"]),
    "Loop": ("steps", [(0, 1), (2, 0)]),
    "Vast": ("names", ["B"]),
    "TooMany": None,
    "Clash": ("clashes", CLASHES),
    "Refused": ("place", 7),
    "NoDeed": None,
}


def made(name):
    if VALUES[name] is None:
        return getattr(errors, name)()
    return getattr(errors, name)(VALUES[name][1])


class ErrorsTest(unittest.TestCase):
    def test_each_is_a_wright_error_and_a_value_error(self):
        self.assertEqual(errors.WrightError.__bases__, (ValueError,))
        self.assertIsInstance(errors.WrightError(), ValueError)
        for name in VALUES:
            with self.subTest(name):
                self.assertIsInstance(made(name), errors.WrightError)
                self.assertIsInstance(made(name), ValueError)

    def test_none_stands_under_another(self):
        for name in VALUES:
            self.assertEqual(getattr(errors, name).__bases__, (errors.WrightError,), name)

    def test_values_are_set_when_made(self):
        for name, value in VALUES.items():
            if value is not None:
                with self.subTest(name):
                    self.assertEqual(getattr(made(name), value[0]), value[1])

    def test_each_object_has_its_own_value(self):
        one = errors.NoPattern(1)
        other = errors.NoPattern(2)
        self.assertEqual((one.place, other.place), (1, 2))

    def test_lists_are_copies(self):
        for name in ("Endless", "Unmet", "Loop", "Vast"):
            with self.subTest(name):
                handed = list(VALUES[name][1])
                error = getattr(errors, name)(handed)
                handed.append("Z")
                self.assertEqual(getattr(error, VALUES[name][0]), VALUES[name][1])

    def test_lists_within_clashes_are_copies(self):
        deeds = [("step", 1), ("make", 2)]
        handed = [(0, "a", deeds)]
        error = errors.Clash(handed)
        deeds.clear()
        handed.clear()
        self.assertEqual(error.clashes, [(0, "a", [("step", 1), ("make", 2)])])


if __name__ == "__main__":
    unittest.main()
