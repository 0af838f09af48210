"""Promise [17]: the errors."""

import unittest

from callwarrant import errors

KEPT = {
    "BadValue": ("at",), "BadText": ("at",), "BadTree": ("at",), "NoBest": ("word",),
    "Stuck": ("word",), "Spent": ("word",), "NoModule": ("name",), "TakenName": ("name",),
    "MissingUse": ("name",), "InUse": ("name",), "NotClosed": ("name",), "Unlawful": ("rule", "at"),
}
SAMPLES = {"at": 3, "word": "many", "name": "shapes", "rule": "parent"}


class Errors(unittest.TestCase):

    def test_base(self):
        self.assertEqual(errors.CallError.__bases__, (Exception,))
        self.assertIsInstance(errors.CallError(), Exception)

    def test_subclasses(self):
        found = {one.__name__ for one in errors.CallError.__subclasses__()}
        self.assertEqual(found, set(KEPT))
        for name in KEPT:
            made = getattr(errors, name)
            self.assertEqual(made.__bases__, (errors.CallError,))
            self.assertEqual(made.__module__, "callwarrant.errors")

    def test_by_place_and_by_name(self):
        for name, kept in KEPT.items():
            told = {one: SAMPLES[one] for one in kept}
            for made in (getattr(errors, name)(*told.values()), getattr(errors, name)(**told)):
                for one in kept:
                    self.assertEqual(getattr(made, one), SAMPLES[one])
                self.assertEqual(set(vars(made)), set(kept))

    def test_unlawful_in_any_sequence(self):
        made = errors.Unlawful(at=0, rule="body")
        self.assertEqual((made.rule, made.at), ("body", 0))

    def test_what_they_are(self):
        for name, kept in KEPT.items():
            made = getattr(errors, name)(*[SAMPLES[one] for one in kept])
            self.assertIsInstance(made, errors.CallError)
            for other in KEPT:
                self.assertEqual(isinstance(made, getattr(errors, other)), name == other)
            for other in (ValueError, TypeError, LookupError, ArithmeticError, RuntimeError):
                self.assertNotIsInstance(made, other)

    def test_each_is_caught_by_its_own_name_and_by_the_base(self):
        for name, kept in KEPT.items():
            for caught in (name, "CallError"):
                with self.assertRaises(getattr(errors, caught)):
                    raise getattr(errors, name)(*[SAMPLES[one] for one in kept])

    def test_keeps_what_was_passed(self):
        for value in (None, True, 0, "", [], ("a", [1])):
            made = errors.NoModule(value)
            self.assertIs(made.name, value)

    def test_wrong_numbers_of_arguments(self):
        for name, kept in KEPT.items():
            made = getattr(errors, name)
            with self.assertRaises(TypeError):
                made()
            with self.assertRaises(TypeError):
                made(*([0] * (len(kept) + 1)))

    def test_message_of_the_example(self):
        self.assertEqual(str(errors.NoBest("many")), "many")
