"""Promise [3]: the refusals, their classes and fields."""

import unittest

from mistgrid import errors
from mistgrid.errors import MistError, NoDesk, NoLevel, NoText, NoWorld, Tells, Unsafe

REFUSALS = (NoLevel, NoWorld, NoDesk, NoText, Unsafe, Tells)
KEYS = ((10, "north"), ("*", "*"))


class Classes(unittest.TestCase):
    def test_mist_error_stands_straight_under_value_error(self):
        self.assertEqual(MistError.__bases__, (ValueError,))

    def test_each_refusal_stands_straight_under_mist_error(self):
        for refusal in REFUSALS:
            self.assertEqual(refusal.__bases__, (MistError,), refusal)

    def test_no_refusal_stands_under_another_one(self):
        for one in REFUSALS:
            for other in REFUSALS:
                self.assertEqual(issubclass(one, other), one is other, (one, other))

    def test_all_are_defined_in_errors(self):
        for refusal in REFUSALS + (MistError,):
            self.assertEqual(refusal.__module__, "mistgrid.errors")
            self.assertIs(getattr(errors, refusal.__name__), refusal)


class Making(unittest.TestCase):
    def test_those_without_fields_are_made_with_one_text(self):
        for refusal in (MistError, NoLevel, NoWorld, NoDesk):
            self.assertEqual(str(refusal("some text")), "some text")

    def test_no_text_has_its_row(self):
        self.assertEqual(NoText(3).row, 3)
        self.assertEqual(NoText(row=4).row, 4)

    def test_unsafe_has_its_keys(self):
        self.assertEqual(Unsafe(KEYS).keys_told, KEYS)
        self.assertEqual(Unsafe(keys_told=KEYS).keys_told, KEYS)

    def test_tells_has_its_person_and_secrets_in_this_order(self):
        secrets = ("cold", "flu")
        for error in (
            Tells("ann", secrets),
            Tells("ann", secrets=secrets),
            Tells(person="ann", secrets=secrets),
            Tells(secrets=secrets, person="ann"),
        ):
            self.assertEqual(error.person, "ann")
            self.assertEqual(error.secrets, secrets)

    def test_fields_are_each_objects_own(self):
        for error in (NoText(1), Unsafe(()), Tells("ann", ())):
            self.assertTrue(vars(error))
        one, other = NoText(1), NoText(2)
        self.assertEqual((one.row, other.row), (1, 2))

    def test_each_is_caught_as_a_value_error(self):
        for error in (NoLevel("x"), NoWorld("x"), NoDesk("x"), NoText(1), Unsafe(()), Tells("a", ())):
            with self.assertRaises(ValueError) as caught:
                raise error
            self.assertIs(caught.exception, error)


if __name__ == "__main__":
    unittest.main()
