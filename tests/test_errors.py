"""[2], [13]: the error classes, their bases and their attributes."""

import inspect
import unittest

from tripladder import errors

KEPT = {
    "NoZone": (LookupError, "zone"), "NoSwitch": (LookupError, "name"), "NoDial": (LookupError, "number"),
    "NoLevel": (IndexError, "level"), "NoWay": (IndexError, "way"), "BadLine": (ValueError, "number"),
}


class ErrorClasses(unittest.TestCase):
    def test_each_is_a_direct_subclass_of_the_named_builtin_alone(self):
        for name, (base, _) in KEPT.items():
            self.assertEqual(getattr(errors, name).__bases__, (base,), name)
        self.assertEqual(errors.BadText.__bases__, (ValueError,))

    def test_each_stands_in_the_file_errors(self):
        for name in [*KEPT, "BadText"]:
            self.assertEqual(getattr(errors, name).__module__, "tripladder.errors")

    def test_each_keeps_its_value_by_position_and_by_name(self):
        for name, (_, attribute) in KEPT.items():
            for value in ("x", "", 0, -3, 999):
                by_place = getattr(errors, name)(value)
                by_name = getattr(errors, name)(**{attribute: value})
                self.assertEqual(getattr(by_place, attribute), value, name)
                self.assertEqual(getattr(by_name, attribute), value, name)
                self.assertEqual(vars(by_place), {attribute: value})

    def test_the_parameters_have_the_written_names(self):
        for name, (_, attribute) in KEPT.items():
            self.assertEqual(list(inspect.signature(getattr(errors, name)).parameters), [attribute])

    def test_bad_text_takes_nothing(self):
        self.assertEqual(vars(errors.BadText()), {})

    def test_each_is_caught_by_its_base_and_not_by_another_of_them(self):
        for name, (base, _) in KEPT.items():
            with self.assertRaises(base) as caught:
                raise getattr(errors, name)(1)
            kin = [other for other in KEPT if isinstance(caught.exception, getattr(errors, other))]
            self.assertEqual(kin, [name])


if __name__ == "__main__":
    unittest.main()
