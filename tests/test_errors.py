import unittest

from harvestcarts import errors

ALL_NAMES = ["InvalidFarm", "TooManyStates", "UnknownField", "InvalidPlan", "InvalidNumber",
             "NotHarmonic", "TooFewCarts", "Contradiction", "InvalidCart", "InvalidOperation", "InvalidText",
             "DecodeError"]


class ErrorsTest(unittest.TestCase):

    def test_base_class_is_a_value_error(self):
        self.assertTrue(issubclass(errors.FarmError, ValueError))

    def test_all_are_farm_errors(self):
        for name in ALL_NAMES:
            self.assertTrue(issubclass(getattr(errors, name), errors.FarmError), name)

    def test_none_is_a_subclass_of_another(self):
        for name in ALL_NAMES:
            self.assertEqual(getattr(errors, name).__bases__, (errors.FarmError,), name)

    def test_attributes_are_given_as_keyword_arguments(self):
        self.assertEqual(errors.InvalidFarm(index=3).index, 3)
        self.assertEqual(errors.UnknownField(name="barley").name, "barley")
        self.assertEqual(errors.InvalidPlan(index=4).index, 4)
        self.assertEqual(errors.InvalidCart(part="every").part, "every")
        self.assertEqual(errors.InvalidOperation(index=0).index, 0)
        error = errors.InvalidText(row=2, word=7)
        self.assertEqual((error.row, error.word), (2, 7))
        self.assertEqual(errors.DecodeError(offset=9).offset, 9)

    def test_attributes_are_not_given_by_position(self):
        for name, count in [("InvalidFarm", 1), ("UnknownField", 1), ("InvalidPlan", 1), ("InvalidCart", 1),
                            ("InvalidOperation", 1), ("InvalidText", 2), ("DecodeError", 1)]:
            with self.assertRaises(TypeError):
                getattr(errors, name)(*["a"] * count)

    def test_errors_without_attributes(self):
        for name in ["TooManyStates", "InvalidNumber", "NotHarmonic", "TooFewCarts", "Contradiction"]:
            with self.assertRaises(errors.FarmError):
                raise getattr(errors, name)()


if __name__ == "__main__":
    unittest.main()
