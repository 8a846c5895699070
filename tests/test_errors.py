"""The errors of the interface, and what point 4 says of them."""

from ringshores import errors
from tests.helper import Case

NAMES = ["NoPlan", "NoSigning", "NoTown", "NoStreet", "NoTurn", "NoRow", "NoWalk", "NoWord",
         "NoWishes", "NoNumbers", "NoOrder", "NothingDone", "NoText", "NoLine"]


class Errors(Case):
    def test_the_first_one_stands_straight_under_value_error(self):
        self.assertEqual(errors.ShoreError.__bases__, (ValueError,))

    def test_all_fourteen_stand_straight_under_it(self):
        for name in NAMES:
            self.assertEqual(getattr(errors, name).__bases__, (errors.ShoreError,), name)
            self.assertEqual(getattr(errors, name).__name__, name)

    def test_there_are_no_others(self):
        found = [name for name in vars(errors) if isinstance(getattr(errors, name), type)]
        self.assertEqual(sorted(found), sorted(NAMES + ["ShoreError"]))

    def test_each_is_made_without_anything(self):
        for name in NAMES + ["ShoreError"]:
            made = getattr(errors, name)()
            self.assertEqual(made.args, ())
            self.assertIsInstance(made, ValueError)

    def test_each_is_defined_in_its_file(self):
        for name in NAMES + ["ShoreError"]:
            self.assertEqual(getattr(errors, name).__module__, "ringshores.errors")

    def test_none_is_caught_as_another_one(self):
        for name in NAMES:
            for other in NAMES:
                made = getattr(errors, name)()
                self.assertEqual(isinstance(made, getattr(errors, other)), name == other)
