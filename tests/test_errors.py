"""Point 17 and the interface of benchrota/errors.py: the error classes."""

import unittest

from benchrota.errors import NoComing, NoStep, RotaError


class HowTheClassesStand(unittest.TestCase):
    def test_each_stands_straight_under_its_base(self):
        self.assertEqual(RotaError.__bases__, (ValueError,))
        self.assertEqual(NoStep.__bases__, (RotaError,))
        self.assertEqual(NoComing.__bases__, (RotaError,))

    def test_they_have_their_names_and_their_file(self):
        for name, error in (("RotaError", RotaError), ("NoStep", NoStep), ("NoComing", NoComing)):
            self.assertEqual(error.__name__, name)
            self.assertEqual(error.__module__, "benchrota.errors")

    def test_the_two_refusals_are_not_one_another(self):
        self.assertFalse(issubclass(NoStep, NoComing))
        self.assertFalse(issubclass(NoComing, NoStep))


class HowTheyAreTaken(unittest.TestCase):
    def test_each_is_taken_by_every_class_above_it(self):
        for error in (NoStep, NoComing):
            for above in (error, RotaError, ValueError):
                with self.assertRaises(above):
                    raise error("refused")
        with self.assertRaises(ValueError):
            raise RotaError("refused")

    def test_a_refusal_is_not_taken_as_the_other_one(self):
        for error, other in ((NoStep, NoComing), (NoComing, NoStep), (RotaError, NoStep), (RotaError, NoComing)):
            try:
                raise error("refused")
            except other:
                self.fail("taken by a class that it does not stand under")
            except RotaError as e:
                self.assertIs(type(e), error)

    def test_they_carry_their_own_words_or_none(self):
        for error in (RotaError, NoStep, NoComing):
            self.assertEqual(str(error("hand 3 comes too early")), "hand 3 comes too early")
            self.assertEqual(str(error()), "")


if __name__ == "__main__":
    unittest.main()
