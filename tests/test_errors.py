"""[4]: the errors."""

import unittest

import lateno.errors as errors
from samples import Case, nested

AT = (
    "InvalidDesk InvalidHistory InvalidStruck InvalidText InvalidTry InvalidIndex InvalidSort InvalidStep "
    "InvalidNumber InvalidLot InvalidPlan InvalidMoves InvalidOffers InvalidRules InvalidBound Refused "
    "InvalidWants InvalidLedger InvalidHouse InvalidSeam InvalidLots InvalidPromise InvalidContract InvalidCosts "
    "InvalidTools InvalidWaits"
).split()
NAMES = AT + ["InvalidSize", "InvalidCommand"]


def made(name):
    error = getattr(errors, name)
    if name == "InvalidCommand":
        return error()
    return error(3)


class Errors(Case):
    def test_the_base_class_is_a_direct_subclass_of_exception(self):
        self.assertEqual(errors.LateError.__bases__, (Exception,))

    def test_there_are_all_errors_and_no_others(self):
        found = [name for name, one in vars(errors).items() if isinstance(one, type)]
        self.assertEqual(sorted(found), sorted(NAMES + ["LateError"]))
        self.assertEqual(len(NAMES), 28)

    def test_each_is_a_direct_subclass_of_the_base(self):
        for name in NAMES:
            error = getattr(errors, name)
            self.assertEqual(error.__bases__, (errors.LateError,), name)
            self.assertEqual(error.__name__, name)
            self.assertEqual(error.__module__, "lateno.errors")

    def test_no_name_catches_another_error(self):
        for name in NAMES:
            for other in NAMES:
                try:
                    raise made(name)
                except getattr(errors, other):
                    self.assertEqual(name, other)
                except errors.LateError:
                    self.assertNotEqual(name, other)

    def test_each_keeps_what_it_was_made_of(self):
        things = [0, -1, True, None, "word", (), [], [1, [2]], ("rows", 1, -1), nested(12), object()]
        for name in AT:
            for thing in things:
                self.assertIs(getattr(errors, name)(thing).at, thing)
                self.assertIs(getattr(errors, name)(at=thing).at, thing)
        for thing in things:
            self.assertIs(errors.InvalidSize(thing).word, thing)
            self.assertIs(errors.InvalidSize(word=thing).word, thing)

    def test_arguments_are_just_those_told(self):
        for name in AT + ["InvalidSize"]:
            with self.assertRaises(TypeError):
                getattr(errors, name)()
            with self.assertRaises(TypeError):
                getattr(errors, name)(1, 2)
        errors.InvalidCommand()


if __name__ == "__main__":
    unittest.main()
