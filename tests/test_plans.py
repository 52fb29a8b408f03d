import unittest

from harvestcarts.errors import InvalidNumber, InvalidPlan
from harvestcarts.plans import Plan

FAR = 10 ** 18


class PlanTestCase(unittest.TestCase):

    def assert_invalid(self, index, *days, **more):
        with self.assertRaises(InvalidPlan) as caught:
            Plan(*days, **more)
        self.assertEqual(caught.exception.index, index)

    def assert_number(self, call, *args):
        with self.assertRaises(InvalidNumber):
            call(*args)


class MakingPlansTest(PlanTestCase):

    def test_ordinary_plan(self):
        plan = Plan(("a",), ("b", "a"), (), lead=1)
        self.assertEqual(plan.days, (("a",), ("b", "a"), ()))
        self.assertEqual(plan.lead, 1)
        self.assertEqual(plan.carts, 2)
        self.assertEqual(len(plan), 3)

    def test_lead_is_0_if_none_is_given(self):
        self.assertEqual(Plan(("a",), ("b",)).lead, 0)

    def test_carts(self):
        self.assertEqual(Plan(()).carts, 0)
        self.assertEqual(Plan((), ("a",)).carts, 1)
        self.assertEqual(Plan(("a", "b", "c"), ("a",), (), lead=2).carts, 3)
        self.assertEqual(Plan(tuple("abcdefgh")).carts, 8)

    def test_repeated_name_on_a_day(self):
        self.assert_invalid(0, ("a", "a"))
        self.assert_invalid(1, ("a",), ("b", "a", "b"), ("c", "c"))
        self.assertEqual(Plan(("a", "b"), ("a", "b")).carts, 2)

    def test_most_days(self):
        day = ("a",)
        self.assertEqual(len(Plan(*[day] * 5000)), 5000)
        self.assertEqual(Plan(*[day] * 5000, lead=4999).lead, 4999)
        self.assert_invalid(5000, *[day] * 5001)
        self.assert_invalid(5000, *[day] * 5001, lead=7000)
        self.assert_invalid(5000, *[day] * 5000, ("a", "a"))
        self.assert_invalid(5000, *[day] * 5500, ("a", "a"))
        self.assert_invalid(4999, *[day] * 4999, ("a", "a"), day)

    def test_lead_out_of_range(self):
        self.assertEqual(Plan(("a",), ("b",), lead=1).lead, 1)
        self.assert_invalid(2, ("a",), ("b",), lead=2)
        self.assert_invalid(2, ("a",), ("b",), lead=-1)
        self.assert_invalid(2, ("a",), ("b",), lead=FAR)

    def test_lead_is_not_a_boolean(self):
        self.assert_invalid(2, ("a",), ("b",), lead=True)
        self.assert_invalid(1, ("a",), lead=False)

    def test_no_days(self):
        self.assert_invalid(0)
        self.assert_invalid(0, lead=1)

    def test_days_are_checked_before_the_lead(self):
        self.assert_invalid(1, ("a",), ("a", "a"), ("b",), lead=9)


class DaysOfPlansTest(PlanTestCase):

    def setUp(self):
        self.plan = Plan(("x",), ("a",), ("b", "c"), (), lead=1)

    def test_days_that_the_plan_was_made_of(self):
        self.assertEqual([self.plan[day] for day in range(4)], [("x",), ("a",), ("b", "c"), ()])

    def test_later_days(self):
        self.assertEqual([self.plan[day] for day in range(4, 11)],
                         [("a",), ("b", "c"), (), ("a",), ("b", "c"), (), ("a",)])

    def test_last_day(self):
        # 10 ** 18 - 1 is divisible by 3, and so the last day is like day 1.
        self.assertEqual(self.plan[FAR], ("a",))
        self.assertEqual(self.plan[FAR - 1], ())
        self.assertEqual(Plan(("x",), ("a",), lead=1)[FAR], ("a",))

    def test_numbers_out_of_range(self):
        for day in [-1, FAR + 1, -FAR, True, False]:
            self.assert_number(lambda: self.plan[day])

    def test_all_small_plans_day_by_day(self):
        for count in range(1, 6):
            for lead in range(count):
                plan = Plan(*[(name,) for name in "abcde"[:count]], lead=lead)
                place = 0
                for day in range(20):
                    self.assertEqual(plan[day], ("abcde"[place],))
                    place = place + 1 if place + 1 < count else lead


class ShiftedPlansTest(PlanTestCase):

    def setUp(self):
        self.plan = Plan(("u",), ("v",), ("a",), ("b",), ("c",), lead=2)

    def test_shift_by_0(self):
        self.assertEqual(self.plan >> 0, self.plan)

    def test_shift_that_ends_before_the_lead(self):
        shifted = self.plan >> 1
        self.assertEqual((shifted.days, shifted.lead), ((("v",), ("a",), ("b",), ("c",)), 1))

    def test_shift_that_ends_at_the_lead(self):
        shifted = self.plan >> 2
        self.assertEqual((shifted.days, shifted.lead), ((("a",), ("b",), ("c",)), 0))

    def test_shift_that_ends_behind_the_lead(self):
        shifted = self.plan >> 3
        self.assertEqual((shifted.days, shifted.lead), ((("b",), ("c",), ("a",)), 0))
        self.assertEqual((self.plan >> 4).days, (("c",), ("a",), ("b",)))
        self.assertEqual((self.plan >> 5).days, (("a",), ("b",), ("c",)))

    def test_shift_far_behind_the_lead(self):
        # 10 ** 18 - 1 is divisible by 3, and so this is like a shift by 4.
        shifted = self.plan >> FAR
        self.assertEqual((shifted.days, shifted.lead), ((("c",), ("a",), ("b",)), 0))
        self.assertEqual(shifted[0], self.plan[FAR])

    def test_same_tuples_from_then_on(self):
        for count in range(1, 6):
            for lead in range(count):
                plan = Plan(*[(name,) for name in "abcde"[:count]], lead=lead)
                for shift in range(14):
                    shifted = plan >> shift
                    self.assertEqual([shifted[day] for day in range(14)],
                                     [plan[day + shift] for day in range(14)])
                    self.assertEqual(shifted.lead, max(0, lead - shift))
                    self.assertEqual(len(shifted), count - min(shift, lead))

    def test_numbers_out_of_range(self):
        for count in [-1, FAR + 1, True, False]:
            self.assert_number(lambda: self.plan >> count)


class NextHarvestTest(PlanTestCase):

    def setUp(self):
        self.plan = Plan(("x", "a"), ("a",), ("b", "c"), (), lead=1)

    def test_on_the_day_itself_and_later(self):
        self.assertEqual([self.plan("a", day) for day in range(8)], [0, 1, 4, 4, 4, 7, 7, 7])
        self.assertEqual([self.plan("c", day) for day in range(7)], [2, 2, 2, 5, 5, 5, 8])

    def test_field_that_is_never_harvested_again(self):
        self.assertEqual(self.plan("x", 0), 0)
        self.assertIsNone(self.plan("x", 1))
        self.assertIsNone(self.plan("x", FAR))

    def test_field_that_is_never_harvested(self):
        self.assertIsNone(self.plan("z", 0))

    def test_later_than_the_last_day(self):
        self.assertEqual(self.plan("a", FAR), FAR)
        self.assertEqual(self.plan("b", FAR), FAR + 1)
        self.assertEqual(Plan(("a",), (), (), lead=0)("a", FAR), FAR + 2)

    def test_in_the_next_turn(self):
        plan = Plan((), (), ("a",), (), (), lead=1)
        self.assertEqual([plan("a", day) for day in range(8)], [2, 2, 2, 6, 6, 6, 6, 10])

    def test_numbers_out_of_range(self):
        for day in [-1, FAR + 1, True, False]:
            self.assert_number(self.plan, "a", day)
            self.assert_number(self.plan, "z", day)

    def test_keyword_arguments(self):
        self.assertEqual(self.plan(name="a", day=2), 4)


class HarvestsTest(PlanTestCase):

    def setUp(self):
        self.plan = Plan(("x", "a"), ("a",), ("b", "c"), (), lead=1)

    def harvests(self, *args):
        return list(self.plan.harvests(*args))

    def test_ordinary_ranges(self):
        self.assertEqual(self.harvests("a", 0, 8), [0, 1, 4, 7])
        self.assertEqual(self.harvests("a", 1, 7), [1, 4, 7])
        self.assertEqual(self.harvests("b", 3, 10), [5, 8])
        self.assertEqual(self.harvests("x", 0, 100), [0])

    def test_range_of_one_day(self):
        self.assertEqual(self.harvests("a", 4, 4), [4])
        self.assertEqual(self.harvests("a", 5, 5), [])
        self.assertEqual(self.harvests("x", 0, 0), [0])

    def test_field_that_is_never_harvested(self):
        self.assertEqual(self.harvests("z", 0, 50), [])
        self.assertEqual(self.harvests("x", 1, 50), [])

    def test_last_days(self):
        self.assertEqual(self.harvests("a", FAR - 4, FAR), [FAR - 3, FAR])
        self.assertEqual(self.harvests("a", FAR, FAR), [FAR])

    def test_longest_range(self):
        self.assertEqual(list(Plan(("a",)).harvests("a", 0, 9999)), list(range(10000)))
        self.assertEqual(len(list(Plan(("a",)).harvests("a", 7, 10006))), 10000)

    def test_range_that_is_too_long(self):
        self.assert_number(list, Plan(("a",)).harvests("a", 0, 10000))
        self.assert_number(list, Plan(("a",)).harvests("a", 7, 10007))
        self.assert_number(self.harvests, "a", 0, 10000)
        self.assert_number(self.harvests, "z", 0, 10000)
        self.assert_number(self.harvests, "a", 0, FAR)

    def test_empty_range(self):
        self.assert_number(self.harvests, "a", 5, 4)
        self.assert_number(self.harvests, "a", 1, 0)
        self.assert_number(self.harvests, "a", FAR, 0)

    def test_numbers_out_of_range(self):
        for first, last in [(-1, 3), (-3, -1), (0, -1), (FAR, FAR + 1), (FAR + 1, FAR + 1), (True, 3), (0, True),
                            (False, 3), (0, False)]:
            self.assert_number(self.harvests, "a", first, last)

    def test_errors_are_raised_when_the_iteration_begins(self):
        harvests = self.plan.harvests("a", 5, 4)
        self.assert_number(next, harvests)
        wrong = self.plan.harvests("a", -1, 4)
        self.assert_number(next, wrong)

    def test_generator(self):
        harvests = self.plan.harvests("a", 0, 8)
        self.assertIs(iter(harvests), harvests)
        self.assertEqual(next(harvests), 0)
        self.assertEqual(next(harvests), 1)

    def test_keyword_arguments(self):
        self.assertEqual(list(self.plan.harvests(name="a", first=2, last=7)), [4, 7])


class PlansAsValuesTest(PlanTestCase):

    def setUp(self):
        self.plan = Plan(("x", "a"), ("a",), ("b", "c"), (), lead=1)

    def test_equality(self):
        same = Plan(("x", "a"), ("a",), ("b", "c"), (), lead=1)
        self.assertTrue(self.plan == same)
        self.assertFalse(self.plan != same)
        for lead in [0, 2, 3]:
            self.assertFalse(self.plan == Plan(("x", "a"), ("a",), ("b", "c"), (), lead=lead))
        self.assertFalse(self.plan == Plan(("a", "x"), ("a",), ("b", "c"), (), lead=1))
        self.assertTrue(self.plan != Plan(("x", "a"), ("a",), ("b", "c"), lead=1))

    def test_plans_with_equal_days_for_ever_may_differ(self):
        self.assertFalse(Plan(("a",)) == Plan(("a",), ("a",)))

    def test_equality_with_other_kinds_of_values(self):
        class Likes:
            def __eq__(self, other):
                return True

        for other in [self.plan.days, list(self.plan.days), (self.plan.days, 1), None, 4, "a", Likes()]:
            self.assertFalse(self.plan == other)
            self.assertTrue(self.plan != other)

    def test_iterating(self):
        with self.assertRaises(TypeError):
            iter(self.plan)
        with self.assertRaises(TypeError):
            for names in self.plan:
                pass
        with self.assertRaises(TypeError):
            list(self.plan)

    def test_a_plan_never_changes(self):
        days = self.plan.days
        self.plan >> 2
        self.plan("a", 3)
        list(self.plan.harvests("a", 0, 9))
        for wrong in [lambda: self.plan >> -1, lambda: self.plan[-1], lambda: self.plan("a", -1)]:
            with self.assertRaises(InvalidNumber):
                wrong()
        kept = self.plan
        kept >>= 1
        self.assertEqual(kept.days, (("a",), ("b", "c"), ()))
        self.assertEqual(self.plan.days, days)
        self.assertEqual(self.plan, Plan(("x", "a"), ("a",), ("b", "c"), (), lead=1))
        for name in ["days", "lead", "carts"]:
            with self.assertRaises(AttributeError):
                setattr(self.plan, name, 0)
        with self.assertRaises(TypeError):
            self.plan[0] = ("b",)

    def test_values_are_tuples(self):
        self.assertIs(type(self.plan.days), tuple)
        self.assertIs(type(self.plan.days[0]), tuple)
        self.assertIs(type(self.plan[0]), tuple)
        self.assertIs(type((self.plan >> 2)[0]), tuple)

    def test_arguments_are_not_kept(self):
        days = [("a",), ("b",)]
        plan = Plan(*days)
        days[0] = ("c",)
        days.append(("d",))
        self.assertEqual(plan.days, (("a",), ("b",)))

    def test_repeated_calls_give_equal_results(self):
        for _ in range(2):
            self.assertEqual(self.plan[4], ("a",))
            self.assertEqual(self.plan("a", 2), 4)
            self.assertEqual(list(self.plan.harvests("a", 0, 8)), [0, 1, 4, 7])
            self.assertEqual((self.plan >> 3).days, ((), ("a",), ("b", "c")))

    def test_methods_stand_in_the_class(self):
        for name in ["days", "lead", "carts", "harvests", "__len__", "__getitem__", "__rshift__", "__eq__",
                     "__call__", "__iter__"]:
            self.assertIn(name, vars(Plan))


class PlanExamplesTest(PlanTestCase):

    def test_plan(self):
        plan = Plan(("a",), ("b",), ("a",), ("c",))
        found = [plan[10 ** 18], plan("c", 4), (plan >> 3).days, list(plan.harvests("a", 0, 6)), plan.carts]
        self.assertEqual(found, [("a",), 7, (("c",), ("a",), ("b",), ("a",)), [0, 2, 4, 6], 1])

    def test_invalid_plan(self):
        self.assert_invalid(1, ("a",), ("b", "b"))


if __name__ == "__main__":
    unittest.main()
