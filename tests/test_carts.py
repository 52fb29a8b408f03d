import unittest

from harvestcarts.carts import Cart, LateCart, RestingCart, ShiftCart, carts_on
from harvestcarts.errors import InvalidCart, InvalidNumber

WRONG_NAMES = ["", "ninechars", "A", "a b", "a1", "-", "\u00e4", "\u00df", "a\n", " a"]
WRONG_DAYS = [-1, 10 ** 18 + 1, True, False]
ALL_CARTS = [Cart("w"), RestingCart("x", 7), ShiftCart("y", work=2, pause=1), LateCart("z", 4)]


def days_of_work(cart, days):
    return [day for day in range(days) if cart.works_on(day)]


class CartTestCase(unittest.TestCase):

    def assert_wrong_part(self, part, make, *args, **more):
        with self.assertRaises(InvalidCart) as caught:
            make(*args, **more)
        self.assertEqual(caught.exception.part, part, (args, more))


class MakingCartsTest(CartTestCase):

    def test_classes(self):
        for kind in [RestingCart, ShiftCart, LateCart]:
            self.assertEqual(kind.__bases__, (Cart,))

    def test_kinds(self):
        self.assertEqual([cart.KIND for cart in ALL_CARTS], ["steady", "resting", "shift", "late"])
        self.assertEqual([Cart.KIND, RestingCart.KIND, ShiftCart.KIND, LateCart.KIND],
                         ["steady", "resting", "shift", "late"])

    def test_each_class_defines_its_method_and_its_kind(self):
        for cart in ALL_CARTS:
            self.assertIn("works_on", vars(cart.__class__))
            self.assertIn("KIND", vars(cart.__class__))

    def test_names(self):
        for name in ["a", "z", "wagon", "eightchr"]:
            self.assertTrue(Cart(name).works_on(0))
            self.assertEqual(Cart(name).name, name)
            self.assertFalse(RestingCart(name, 2).works_on(0))
            self.assertTrue(ShiftCart(name, work=1, pause=1).works_on(0))
            self.assertTrue(LateCart(name, 0).works_on(0))

    def test_wrong_names(self):
        for name in WRONG_NAMES:
            self.assert_wrong_part("name", Cart, name)
            self.assert_wrong_part("name", RestingCart, name, 7)
            self.assert_wrong_part("name", ShiftCart, name, work=1, pause=1)
            self.assert_wrong_part("name", LateCart, name, 0)

    def test_resting_carts(self):
        for every, day in [(2, 0), (2, 1), (1000, 0), (1000, 999), (7, 6)]:
            self.assertFalse(RestingCart("x", every, day=day).works_on(day))
        for every in [1, 0, -1, 1001, 10 ** 18, True, False]:
            self.assert_wrong_part("every", RestingCart, "x", every)
        for every, day in [(2, 2), (2, -1), (7, 7), (1000, 1000), (7, True), (7, False)]:
            self.assert_wrong_part("day", RestingCart, "x", every, day=day)

    def test_shift_carts(self):
        for work, pause in [(1, 1), (1000, 1000), (1, 1000), (1000, 1)]:
            self.assertFalse(ShiftCart("x", work=work, pause=pause).works_on(work))
        for number in [0, -1, 1001, True, False]:
            self.assert_wrong_part("work", ShiftCart, "x", work=number, pause=1)
            self.assert_wrong_part("pause", ShiftCart, "x", work=1, pause=number)

    def test_late_carts(self):
        self.assertTrue(LateCart("x", 0).works_on(0))
        self.assertTrue(LateCart("x", 10 ** 18).works_on(10 ** 18))
        for first in [-1, 10 ** 18 + 1, True, False]:
            self.assert_wrong_part("first", LateCart, "x", first)

    def test_the_first_wrong_part_is_told(self):
        self.assert_wrong_part("name", RestingCart, "", 1, day=1)
        self.assert_wrong_part("every", RestingCart, "x", 1, day=1)
        self.assert_wrong_part("every", RestingCart, "x", 1001, day=-1)
        self.assert_wrong_part("name", ShiftCart, "", work=0, pause=0)
        self.assert_wrong_part("work", ShiftCart, "x", work=0, pause=0)
        self.assert_wrong_part("work", ShiftCart, "x", pause=0, work=0)
        self.assert_wrong_part("name", LateCart, "", -1)

    def test_what_is_given_by_keyword(self):
        self.assertEqual(days_of_work(RestingCart(name="x", every=3, day=1), 4), [0, 2, 3])
        self.assertEqual(days_of_work(LateCart(name="x", first=2), 4), [2, 3])
        self.assertEqual(days_of_work(Cart(name="x"), 2), [0, 1])
        with self.assertRaises(TypeError):
            RestingCart("x", 3, 1)
        with self.assertRaises(TypeError):
            ShiftCart("x", 2, 1)


class WorksOnTest(CartTestCase):

    def test_steady(self):
        self.assertEqual(days_of_work(Cart("x"), 5), [0, 1, 2, 3, 4])

    def test_resting(self):
        self.assertEqual(days_of_work(RestingCart("x", 3), 8), [1, 2, 4, 5, 7])
        self.assertEqual(days_of_work(RestingCart("x", 3, day=2), 8), [0, 1, 3, 4, 6, 7])
        self.assertEqual(days_of_work(RestingCart("x", 2, day=1), 5), [0, 2, 4])

    def test_shift(self):
        self.assertEqual(days_of_work(ShiftCart("x", work=2, pause=1), 8), [0, 1, 3, 4, 6, 7])
        self.assertEqual(days_of_work(ShiftCart("x", work=1, pause=3), 10), [0, 4, 8])
        self.assertEqual(days_of_work(ShiftCart("x", work=3, pause=2), 10), [0, 1, 2, 5, 6, 7])

    def test_late(self):
        self.assertEqual(days_of_work(LateCart("x", 3), 6), [3, 4, 5])
        self.assertEqual(days_of_work(LateCart("x", 0), 3), [0, 1, 2])

    def test_last_day(self):
        last = 10 ** 18
        self.assertIs(Cart("x").works_on(last), True)
        self.assertIs(RestingCart("x", 2).works_on(last), False)
        self.assertIs(RestingCart("x", 1000, day=999).works_on(last - 1), False)
        self.assertIs(RestingCart("x", 7).works_on(last), True)
        self.assertIs(ShiftCart("x", work=1, pause=1).works_on(last), True)
        self.assertIs(ShiftCart("x", work=1, pause=1).works_on(last - 1), False)
        self.assertIs(LateCart("x", last).works_on(last - 1), False)

    def test_wrong_days(self):
        for cart in ALL_CARTS:
            for day in WRONG_DAYS:
                with self.assertRaises(InvalidNumber):
                    cart.works_on(day)

    def test_repeated_calls(self):
        for cart in ALL_CARTS:
            self.assertEqual(days_of_work(cart, 20), days_of_work(cart, 20))


class CartsOnTest(CartTestCase):

    def test_counts(self):
        self.assertEqual([carts_on(ALL_CARTS, day) for day in range(8)], [2, 3, 2, 3, 4, 3, 4, 3])
        self.assertEqual(carts_on([], 3), 0)
        self.assertEqual(carts_on([Cart("x")] * 9, 10 ** 18), 9)
        self.assertEqual(carts_on([Cart("x"), Cart("x")], 0), 2)

    def test_wrong_days(self):
        for day in WRONG_DAYS:
            for carts in [ALL_CARTS, []]:
                with self.assertRaises(InvalidNumber):
                    carts_on(carts, day)

    def test_the_list_is_left_as_it_is(self):
        carts = list(ALL_CARTS)
        carts_on(carts, 3)
        self.assertEqual([id(cart) for cart in carts], [id(cart) for cart in ALL_CARTS])


class CartsExamplesTest(CartTestCase):

    def test_works_on(self):
        found = [RestingCart("x", 7).works_on(14), ShiftCart("y", work=2, pause=1).works_on(4),
                 LateCart("z", 4).works_on(3)]
        self.assertEqual(found, [False, True, False])

    def test_invalid_cart(self):
        with self.assertRaises(InvalidCart) as caught:
            RestingCart("x", 7, day=7)
        self.assertEqual(caught.exception.part, "day")

    def test_carts_on(self):
        self.assertEqual(carts_on([Cart("w"), RestingCart("x", 7)], 7), 1)


if __name__ == "__main__":
    unittest.main()
