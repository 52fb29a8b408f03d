import unittest

from harvestcarts import errors

ALL_NAMES = ["InvalidFarm", "TooManyStates", "UnknownField", "InvalidPlan", "InvalidNumber",
             "NotHarmonic", "TooFewCarts", "Contradiction"]


class ErrorsTest(unittest.TestCase):

    def test_base_class_is_a_value_error(self):
        self.assertTrue(issubclass(errors.FarmError, ValueError))

    def test_all_are_farm_errors(self):
        for name in ALL_NAMES:
            self.assertTrue(issubclass(getattr(errors, name), errors.FarmError), name)

    def test_none_is_a_subclass_of_another(self):
        for name in ALL_NAMES:
            self.assertEqual(getattr(errors, name).__bases__, (errors.FarmError,), name)

    def test_attributes_are_given_as_keyword_arguments(self):
        self.assertEqual(errors.InvalidFarm(index=3).index, 3)
        self.assertEqual(errors.UnknownField(name="barley").name, "barley")
        self.assertEqual(errors.InvalidPlan(index=4).index, 4)

    def test_errors_without_attributes(self):
        for name in ["TooManyStates", "InvalidNumber", "NotHarmonic", "TooFewCarts", "Contradiction"]:
            with self.assertRaises(errors.FarmError):
                raise getattr(errors, name)()


if __name__ == "__main__":
    unittest.main()
