"""The errors: what they derive from, what they keep."""

import unittest

from handsunread import errors

WITH_VALUES = (
    (errors.NoHand, LookupError, "hand", 3),
    (errors.NoWire, LookupError, "wire", (0, "lever", 1)),
    (errors.NoNumber, LookupError, "number", -1),
    (errors.NoWord, LookupError, "word", "loud"),
    (errors.BadLine, ValueError, "number", 0),
)
WITHOUT = (
    (errors.NothingDone, LookupError),
    (errors.Unfit, ValueError),
    (errors.NoPaper, ValueError),
    (errors.BadText, ValueError),
)


class Errors(unittest.TestCase):
    def test_each_is_a_direct_subclass(self):
        for error, base, _, _ in WITH_VALUES:
            self.assertEqual(error.__bases__, (base,))
        for error, base in WITHOUT:
            self.assertEqual(error.__bases__, (base,))

    def test_values_are_kept_by_name(self):
        for error, _, name, value in WITH_VALUES:
            self.assertEqual(vars(error(value)), {name: value})
            self.assertEqual(vars(error(**{name: value})), {name: value})
            with self.assertRaises(error) as held:
                raise error(value)
            self.assertEqual(getattr(held.exception, name), value)

    def test_without_values(self):
        for error, _ in WITHOUT:
            self.assertEqual(vars(error()), {})
            with self.assertRaises(error):
                raise error()

    def test_a_wire_is_kept_as_a_tuple(self):
        wire = [0, "gauge", 2]
        self.assertEqual(errors.NoWire(wire).wire, (0, "gauge", 2))
        self.assertEqual(wire, [0, "gauge", 2])

    def test_there_are_no_others(self):
        named = {error.__name__ for error, _, _, _ in WITH_VALUES} | {error.__name__ for error, _ in WITHOUT}
        self.assertEqual({name for name in vars(errors) if not name.startswith("_")}, named)


if __name__ == "__main__":
    unittest.main()
