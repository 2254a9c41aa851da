"""[2], [23]: the error classes."""

import inspect
import unittest

from handlepairs import errors

TOLD = {
    "NoCorner": (LookupError, ("corner",)),
    "NoEdge": (LookupError, ("edge",)),
    "NoField": (LookupError, ("field",)),
    "NothingDone": (LookupError, ()),
    "BadText": (ValueError, ("line",)),
    "CanNot": (ValueError, ()),
    "Odd": (ValueError, ()),
    "TooMany": (ValueError, ()),
    "Unfit": (ValueError, ()),
    "Unpaired": (ValueError, ()),
}


class ErrorsTest(unittest.TestCase):
    def test_there_are_these_and_no_others(self):
        found = {name for name, value in vars(errors).items() if inspect.isclass(value)}
        self.assertEqual(found, set(TOLD))

    def test_each_is_a_direct_subclass_of_its_one_base(self):
        for name, (base, _) in TOLD.items():
            with self.subTest(name=name):
                cls = getattr(errors, name)
                self.assertEqual(cls.__bases__, (base,))
                self.assertEqual(cls.__module__, "handlepairs.errors")
                self.assertEqual(cls.__name__, name)

    def test_each_keeps_the_values_in_its_brackets(self):
        for name, (_, kept) in TOLD.items():
            cls = getattr(errors, name)
            for value in (0, -1, 10 ** 20, (1, 2), "a", None):
                with self.subTest(name=name, value=value):
                    for error in (cls(*[value for _ in kept]), cls(**{key: value for key in kept})):
                        self.assertEqual(vars(error), {key: value for key in kept})

    def test_each_is_raised_and_caught_by_its_name(self):
        for name, (base, kept) in TOLD.items():
            with self.subTest(name=name):
                with self.assertRaises(base) as caught:
                    raise getattr(errors, name)(*[3 for _ in kept])
                self.assertEqual([getattr(caught.exception, key) for key in kept], [3 for _ in kept])

    def test_none_catches_another_one(self):
        for name in TOLD:
            for other in TOLD:
                is_sub = issubclass(getattr(errors, name), getattr(errors, other))
                self.assertEqual(is_sub, name == other)


if __name__ == "__main__":
    unittest.main()
