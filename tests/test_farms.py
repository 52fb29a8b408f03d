import unittest
from fractions import Fraction

from harvestcarts.errors import InvalidFarm, TooManyStates, UnknownField
from harvestcarts.farms import Farm, least_carts


class FarmTestCase(unittest.TestCase):

    def assert_invalid(self, index, make, *args):
        with self.assertRaises(InvalidFarm) as caught:
            make(*args)
        self.assertEqual(caught.exception.index, index)

    def assert_unknown(self, name, make, *args):
        with self.assertRaises(UnknownField) as caught:
            make(*args)
        self.assertEqual(caught.exception.name, name)


class MakingFarmsTest(FarmTestCase):

    def test_ordinary_farm(self):
        farm = Farm(("wheat", 2), ("oats", 4), ("rye", 30))
        self.assertEqual(farm.fields, (("wheat", 2), ("oats", 4), ("rye", 30)))
        self.assertEqual(farm.names, ("wheat", "oats", "rye"))
        self.assertEqual(farm.limits, (2, 4, 30))

    def test_one_field_and_six_fields(self):
        self.assertEqual(Farm(("a", 1)).fields, (("a", 1),))
        fields = tuple((name, 2) for name in "abcdef")
        self.assertEqual(Farm(*fields).fields, fields)

    def test_no_field(self):
        self.assert_invalid(0, Farm)

    def test_seventh_field(self):
        fields = [(name, 1) for name in "abcdefg"]
        self.assert_invalid(6, Farm, *fields)
        self.assert_invalid(6, Farm, *fields, ("h", 0))

    def test_name_lengths(self):
        self.assertEqual(Farm(("a", 1)).names, ("a",))
        self.assertEqual(Farm(("abcdefgh", 1)).names, ("abcdefgh",))
        self.assert_invalid(0, Farm, ("", 1))
        self.assert_invalid(0, Farm, ("abcdefghi", 1))

    def test_name_letters(self):
        self.assertEqual(Farm(("az", 1)).names, ("az",))
        for name in ["A", "aB", "a1", "a b", " a", "a ", "a-", "a_", "`", "{", "\u00e4", "\u03b1", "a\n"]:
            self.assert_invalid(1, Farm, ("ok", 1), (name, 1))

    def test_limits(self):
        self.assertEqual(Farm(("a", 1), ("b", 30)).limits, (1, 30))
        for limit in [0, 31, -1, 10 ** 20]:
            self.assert_invalid(1, Farm, ("a", 1), ("b", limit))

    def test_booleans_are_not_integers(self):
        self.assert_invalid(0, Farm, ("a", True))
        self.assert_invalid(1, Farm, ("a", 2), ("b", False))

    def test_repeated_name(self):
        self.assert_invalid(1, Farm, ("a", 2), ("a", 3))
        self.assert_invalid(2, Farm, ("a", 2), ("b", 3), ("a", 2))

    def test_first_fault_is_reported(self):
        self.assert_invalid(1, Farm, ("a", 2), ("a", 3), ("b", 0), ("B", 1))
        self.assert_invalid(1, Farm, ("a", 2), ("b", 0), ("a", 3))
        self.assert_invalid(1, Farm, ("a", 2), ("B", 2), ("b", 0))
        self.assert_invalid(2, Farm, ("a", 1), ("b", 1), ("a", 1), ("d", 1), ("e", 1), ("f", 1), ("g", 1))
        self.assert_invalid(6, Farm, *[(name, 1) for name in "abcdefga"])

    def test_repeated_name_of_an_invalid_field_is_later(self):
        self.assert_invalid(0, Farm, ("a", 0), ("a", 1))

    def test_product_of_limits(self):
        self.assertEqual(Farm(("a", 20), ("b", 20), ("c", 10)).limits, (20, 20, 10))
        self.assertEqual(Farm(*[(name, 4) for name in "abcde"]).limits, (4, 4, 4, 4, 4))
        # 4001 is a prime number, so 4002 is the least product above 4000.
        with self.assertRaises(TooManyStates):
            Farm(("a", 29), ("b", 23), ("c", 6))
        with self.assertRaises(TooManyStates):
            Farm(*[(name, 4) for name in "abcdef"])

    def test_invalid_farm_comes_before_too_many_states(self):
        self.assert_invalid(3, Farm, ("a", 30), ("b", 30), ("c", 30), ("a", 30))
        self.assert_invalid(6, Farm, *[(name, 30) for name in "abcdefg"])
        self.assert_invalid(3, Farm, ("a", 30), ("b", 30), ("c", 30), ("d", 31))

    def test_class_values(self):
        self.assertEqual((Farm.MAX_FIELDS, Farm.MAX_STATES), (6, 4000))

    def test_equal(self):
        self.assertEqual(Farm.equal(3, "a", "b").fields, (("a", 3), ("b", 3)))
        self.assertEqual(Farm.equal(30, "x"), Farm(("x", 30)))
        self.assertIsInstance(Farm.equal(3, "a"), Farm)

    def test_equal_with_wrong_arguments(self):
        self.assert_invalid(0, Farm.equal, 3)
        self.assert_invalid(0, Farm.equal, 0, "a", "b")
        self.assert_invalid(0, Farm.equal, True, "a")
        self.assert_invalid(1, Farm.equal, 3, "a", "a")
        self.assert_invalid(2, Farm.equal, 3, "a", "b", "C")
        self.assert_invalid(6, Farm.equal, 1, *"abcdefg")
        with self.assertRaises(TooManyStates):
            Farm.equal(16, "a", "b", "c")
        self.assertEqual(Farm.equal(15, "a", "b", "c").limits, (15, 15, 15))


class ShareTest(unittest.TestCase):

    def test_examples(self):
        self.assertEqual(Farm(("a", 2), ("b", 4), ("c", 4)).share, (1, 1))
        self.assertEqual(Farm(("a", 2), ("b", 3), ("c", 7)).share, (41, 42))
        self.assertEqual(Farm(("a", 30)).share, (1, 30))
        self.assertEqual(Farm(("a", 6), ("b", 6), ("c", 6)).share, (1, 2))
        self.assertEqual(Farm(("a", 1), ("b", 1), ("c", 2)).share, (5, 2))
        self.assertEqual(Farm(*[(name, 1) for name in "abcdef"]).share, (6, 1))

    def test_all_small_farms(self):
        for one in range(1, 13):
            for other in range(1, 13):
                for third in range(1, 13):
                    farm = Farm(("a", one), ("b", other), ("c", third))
                    share = Fraction(1, one) + Fraction(1, other) + Fraction(1, third)
                    self.assertEqual(farm.share, (share.numerator, share.denominator))
                    self.assertEqual(least_carts(farm), -(-share // 1))

    def test_least_carts(self):
        self.assertEqual(least_carts(Farm(("a", 2), ("b", 4), ("c", 4))), 1)
        self.assertEqual(least_carts(Farm(("a", 2), ("b", 2), ("c", 30))), 2)
        self.assertEqual(least_carts(Farm(("a", 30))), 1)
        self.assertEqual(least_carts(Farm(("a", 1))), 1)
        self.assertEqual(least_carts(Farm(("a", 1), ("b", 30))), 2)
        self.assertEqual(least_carts(Farm.equal(1, *"abcdef")), 6)
        self.assertEqual(least_carts(Farm.equal(2, *"abcdef")), 3)


class FarmSignsTest(FarmTestCase):

    def setUp(self):
        self.farm = Farm(("a", 2), ("b", 4), ("c", 5))

    def test_length(self):
        self.assertEqual(len(self.farm), 3)
        self.assertEqual(len(Farm(("a", 2))), 1)

    def test_contains(self):
        self.assertTrue("a" in self.farm)
        self.assertTrue("c" in self.farm)
        self.assertFalse("d" in self.farm)
        self.assertFalse("" in self.farm)
        self.assertFalse("ab" in self.farm)

    def test_limit_of_a_field(self):
        self.assertEqual([self.farm["a"], self.farm["b"], self.farm["c"]], [2, 4, 5])

    def test_limit_of_an_unknown_field(self):
        self.assert_unknown("d", lambda: self.farm["d"])
        self.assert_unknown("", lambda: self.farm[""])

    def test_without_a_field(self):
        self.assertEqual((self.farm - "a").fields, (("b", 4), ("c", 5)))
        self.assertEqual((self.farm - "b").fields, (("a", 2), ("c", 5)))
        self.assertEqual((self.farm - "c" - "a").fields, (("b", 4),))

    def test_without_an_unknown_field(self):
        self.assert_unknown("d", lambda: self.farm - "d")
        self.assert_unknown("b", lambda: Farm(("a", 2)) - "b")

    def test_without_the_last_field(self):
        self.assert_invalid(0, lambda: Farm(("a", 2)) - "a")

    def test_sum(self):
        other = Farm(("z", 3), ("d", 1))
        self.assertEqual((self.farm + other).fields, (("a", 2), ("b", 4), ("c", 5), ("z", 3), ("d", 1)))
        self.assertEqual((other + self.farm).names, ("z", "d", "a", "b", "c"))

    def test_sum_with_other_kinds_of_values(self):
        for other in ["d", ("d", 2), 3]:
            with self.assertRaises(TypeError):
                self.farm + other

    def test_sum_with_a_repeated_name(self):
        self.assert_invalid(4, lambda: self.farm + Farm(("d", 2), ("b", 4)))
        self.assert_invalid(3, lambda: self.farm + self.farm)

    def test_sum_with_too_many_fields(self):
        self.assertEqual(len(self.farm + Farm.equal(1, "d", "e", "f")), 6)
        self.assert_invalid(6, lambda: self.farm + Farm.equal(1, "d", "e", "f", "g"))
        self.assert_invalid(6, lambda: self.farm + Farm.equal(5, "d", "e", "f", "g"))

    def test_sum_with_too_many_states(self):
        self.assertEqual((self.farm + Farm.equal(10, "d", "e")).limits, (2, 4, 5, 10, 10))
        with self.assertRaises(TooManyStates):
            self.farm + Farm(("d", 10), ("e", 11))

    def test_equality(self):
        same = Farm(("a", 2), ("b", 4), ("c", 5))
        self.assertTrue(self.farm == same)
        self.assertFalse(self.farm != same)
        self.assertFalse(self.farm == Farm(("b", 4), ("a", 2), ("c", 5)))
        self.assertFalse(self.farm == Farm(("a", 2), ("b", 4), ("c", 6)))
        self.assertFalse(self.farm == Farm(("a", 2), ("b", 4)))
        self.assertTrue(self.farm != Farm(("a", 2), ("b", 4), ("d", 5)))

    def test_equality_with_other_kinds_of_values(self):
        class Likes:
            def __eq__(self, other):
                return True

        for other in [self.farm.fields, list(self.farm.fields), None, 3, "a", self.farm.names, Likes()]:
            self.assertFalse(self.farm == other)
            self.assertTrue(self.farm != other)

    def test_iterating(self):
        with self.assertRaises(TypeError):
            iter(self.farm)
        with self.assertRaises(TypeError):
            for name in self.farm:
                pass
        with self.assertRaises(TypeError):
            list(self.farm)

    def test_with_limit(self):
        self.assertEqual(self.farm.with_limit("b", 7).fields, (("a", 2), ("b", 7), ("c", 5)))
        self.assertEqual(self.farm.with_limit("c", 30).limits, (2, 4, 30))
        self.assertEqual(self.farm.with_limit("a", 2), self.farm)
        self.assertEqual(self.farm.with_limit(name="a", limit=1).limits, (1, 4, 5))

    def test_with_limit_errors(self):
        self.assert_unknown("d", self.farm.with_limit, "d", 3)
        self.assert_unknown("d", self.farm.with_limit, "d", 0)
        for limit in [0, 31, -2, True]:
            self.assert_invalid(1, self.farm.with_limit, "b", limit)
        large = Farm(("a", 30), ("b", 30), ("c", 4))
        with self.assertRaises(TooManyStates):
            large.with_limit("c", 5)
        self.assert_invalid(2, large.with_limit, "c", 31)

    def test_a_farm_never_changes(self):
        fields = self.farm.fields
        self.farm - "a"
        self.farm + Farm(("d", 2))
        self.farm.with_limit("a", 9)
        for wrong in [lambda: self.farm - "d", lambda: self.farm + self.farm,
                      lambda: self.farm.with_limit("a", 0)]:
            with self.assertRaises(ValueError):
                wrong()
        kept = self.farm
        kept += Farm(("d", 2))
        kept -= "a"
        self.assertEqual(kept.names, ("b", "c", "d"))
        self.assertEqual(self.farm.fields, fields)
        self.assertEqual(self.farm.fields, (("a", 2), ("b", 4), ("c", 5)))
        self.assertEqual(self.farm.share, (19, 20))
        for name in ["fields", "names", "limits", "share"]:
            with self.assertRaises(AttributeError):
                setattr(self.farm, name, ())
        with self.assertRaises(TypeError):
            self.farm["a"] = 9

    def test_values_are_tuples(self):
        for value in [self.farm.fields, self.farm.fields[0], self.farm.names, self.farm.limits, self.farm.share]:
            self.assertIs(type(value), tuple)

    def test_repeated_calls_give_equal_results(self):
        for _ in range(2):
            self.assertEqual(self.farm.share, (19, 20))
            self.assertEqual(least_carts(self.farm), 1)
            self.assertEqual((self.farm - "a").names, ("b", "c"))


class FarmExamplesTest(FarmTestCase):

    def test_farm(self):
        farm = Farm(("a", 2), ("b", 4), ("c", 4))
        found = [farm.share, farm["b"], (farm - "a").limits, len(farm + Farm.equal(3, "d")),
                 farm.with_limit("c", 5).limits]
        self.assertEqual(found, [(1, 1), 4, (4, 4), 4, (2, 4, 5)])

    def test_invalid_farm(self):
        self.assert_invalid(1, Farm, ("a", 2), ("a", 3))

    def test_least_carts(self):
        found = [least_carts(Farm(("a", 2), ("b", 4), ("c", 4))), least_carts(Farm(("a", 2), ("b", 2), ("c", 30)))]
        self.assertEqual(found, [1, 2])

    def test_methods_stand_in_the_class(self):
        for name in ["fields", "names", "limits", "share", "equal", "with_limit", "__len__", "__contains__",
                     "__getitem__", "__sub__", "__add__", "__eq__", "__iter__"]:
            self.assertIn(name, vars(Farm))


if __name__ == "__main__":
    unittest.main()
