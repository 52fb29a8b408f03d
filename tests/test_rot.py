import unittest
from itertools import combinations, product

from harvestcarts.errors import UnknownField
from harvestcarts.farms import Farm
from harvestcarts.plans import Plan, first_rot, mend_by_swap, needless_harvests

CHOICES = [(), ("a",), ("b",), ("b", "a")]


def rot_by_days(farm, days, lead):
    """What first_rot returns, found by going through the days as a farmer would."""
    left = dict(farm.fields)
    place = 0
    for day in range(3 * len(days) + 2 * max(farm.limits)):
        for name in farm.names:
            if left[name] == 1 and name not in days[place]:
                return day, name
        for name in farm.names:
            left[name] = farm[name] if name in days[place] else left[name] - 1
        place = place + 1 if place + 1 < len(days) else lead
    return None


def mended_by_days(farm, days, lead):
    for one, other in combinations(range(len(days)), 2):
        changed = list(days)
        changed[one], changed[other] = days[other], days[one]
        if rot_by_days(farm, changed, lead) is None:
            return Plan(*changed, lead=lead)
    return None


def needless_by_days(farm, days, lead):
    found = []
    for place, names in enumerate(days):
        for name in names:
            changed = list(days)
            changed[place] = tuple(other for other in names if other != name)
            if rot_by_days(farm, changed, lead) is None:
                found.append((place, name))
    return found


def small_plans():
    for count in range(1, 5):
        for days in product(CHOICES, repeat=count):
            for lead in range(count):
                yield days, lead


SMALL_FARMS = [Farm(("a", one), ("b", other)) for one in (1, 2, 3) for other in (2, 4)]


class AllSmallPlansTest(unittest.TestCase):

    def test_first_rot(self):
        for farm in SMALL_FARMS:
            for days, lead in small_plans():
                self.assertEqual(first_rot(farm, Plan(*days, lead=lead)), rot_by_days(farm, days, lead),
                                 (farm.fields, days, lead))

    def test_mend_by_swap(self):
        for farm in SMALL_FARMS:
            for days, lead in small_plans():
                self.assertEqual(mend_by_swap(farm, Plan(*days, lead=lead)), mended_by_days(farm, days, lead),
                                 (farm.fields, days, lead))

    def test_needless_harvests(self):
        for farm in SMALL_FARMS:
            for days, lead in small_plans():
                self.assertEqual(needless_harvests(farm, Plan(*days, lead=lead)),
                                 needless_by_days(farm, days, lead), (farm.fields, days, lead))


class FirstRotTest(unittest.TestCase):

    def setUp(self):
        self.farm = Farm(("a", 2), ("b", 4), ("c", 4))

    def test_nothing_ever_rots(self):
        self.assertIsNone(first_rot(self.farm, Plan(("a",), ("b",), ("a",), ("c",))))
        self.assertIsNone(first_rot(self.farm, Plan(("a", "b", "c"))))
        self.assertIsNone(first_rot(Farm(("a", 1)), Plan(("a",))))

    def test_last_possible_days(self):
        farm = Farm(("a", 3))
        self.assertIsNone(first_rot(farm, Plan((), (), ("a",))))
        self.assertIsNone(first_rot(farm, Plan((), ("a",), (), (), ("a",), lead=2)))
        self.assertEqual(first_rot(farm, Plan((), (), (), ("a",))), (2, "a"))
        self.assertEqual(first_rot(farm, Plan(("a",), (), (), (), ("a",))), (3, "a"))

    def test_first_days(self):
        self.assertEqual(first_rot(self.farm, Plan(("b",), ("c",), ("a",))), (1, "a"))
        self.assertEqual(first_rot(Farm(("a", 1), ("b", 2)), Plan(("b",), ("a",))), (0, "a"))

    def test_only_in_a_later_turn(self):
        self.assertIsNone(first_rot(Farm(("a", 2)), Plan((), ("a",), (), ("a",))))
        self.assertEqual(first_rot(Farm(("a", 2)), Plan((), ("a",), (), ("a",), ())), (5, "a"))
        self.assertEqual(first_rot(Farm(("a", 5)), Plan(("a",), (), (), lead=2)), (5, "a"))
        self.assertEqual(first_rot(Farm(("a", 30)), Plan(("a",), (), lead=1)), (30, "a"))
        self.assertEqual(first_rot(Farm(("a", 3)), Plan(("a",), (), ("a",), (), (), lead=3)), (5, "a"))

    def test_wrap_to_the_lead(self):
        farm = Farm(("a", 4))
        self.assertIsNone(first_rot(farm, Plan((), (), ("a",), (), (), lead=1)))
        self.assertEqual(first_rot(farm, Plan((), (), ("a",), (), (), (), lead=1)), (6, "a"))

    def test_field_that_is_never_harvested(self):
        self.assertEqual(first_rot(Farm(("a", 2), ("b", 30)), Plan(("a",))), (29, "b"))
        self.assertEqual(first_rot(self.farm, Plan(())), (1, "a"))

    def test_several_fields_on_one_day(self):
        plan = Plan(("a",), ("a",))
        self.assertEqual(first_rot(Farm(("a", 2), ("c", 3), ("b", 3)), plan), (2, "c"))
        self.assertEqual(first_rot(Farm(("b", 3), ("a", 2), ("c", 3)), plan), (2, "b"))

    def test_earlier_day_comes_before_the_order_of_the_farm(self):
        self.assertEqual(first_rot(Farm(("c", 5), ("b", 4), ("a", 3)), Plan(())), (2, "a"))

    def test_most_days(self):
        days = [("a",), ("b",), ("a",), ("c",)] * 1250
        self.assertIsNone(first_rot(self.farm, Plan(*days)))
        self.assertIsNone(first_rot(self.farm, Plan(*days, lead=2000)))
        self.assertEqual(first_rot(self.farm, Plan(*days, lead=2001)), (5000, "a"))


class MendBySwapTest(unittest.TestCase):

    def setUp(self):
        self.farm = Farm(("a", 2), ("b", 4), ("c", 4))

    def assert_mended(self, days, farm, plan):
        mended = mend_by_swap(farm, plan)
        self.assertEqual((mended.days, mended.lead), (days, plan.lead))
        self.assertIsNone(first_rot(farm, mended))

    def test_earlier_day_of_an_exchange_counts_first(self):
        # The exchange of 1 and 2 mends it, too, but that of 0 and 3 comes before.
        self.assert_mended((("c",), ("a",), ("b",), ("a",)), self.farm, Plan(("a",), ("a",), ("b",), ("c",)))

    def test_then_the_other_day_counts(self):
        farm = Farm(("a", 3))
        # The exchange of 0 and 3 and all exchanges of 1 mend it, too.
        self.assert_mended((("a",), (), (), ("a",), ()), farm, Plan((), (), ("a",), ("a",), ()))

    def test_rot_in_the_first_days(self):
        plan = Plan(("c",), ("b",), ("a",), ("a",), ("c",), lead=1)
        self.assertEqual(first_rot(self.farm, plan), (1, "a"))
        self.assert_mended((("c",), ("a",), ("b",), ("a",), ("c",)), self.farm, plan)

    def test_rot_only_in_a_later_turn(self):
        farm = Farm(("a", 2))
        plan = Plan(("a",), (), ("a",), ("a",), (), lead=4)
        self.assertEqual(first_rot(farm, plan), (5, "a"))
        self.assert_mended((("a",), (), ("a",), (), ("a",)), farm, plan)

    def test_rot_only_in_a_later_turn_is_not_mended(self):
        plan = Plan((), ("a",), (), ("a",), ())
        self.assertEqual(first_rot(Farm(("a", 2)), plan), (5, "a"))
        self.assertIsNone(mend_by_swap(Farm(("a", 2)), plan))

    def test_mended_by_none(self):
        self.assertIsNone(mend_by_swap(self.farm, Plan(("b",), ("b",), ("c",), ("c",))))
        self.assertIsNone(mend_by_swap(self.farm, Plan(("a",), ("a",), ("b",), ("b",), ("c",), ("c",))))
        self.assertIsNone(mend_by_swap(Farm(("a", 2), ("b", 3), ("c", 7)), Plan(("a",), ("b",), ("c",))))

    def test_field_that_is_never_harvested(self):
        self.assertIsNone(mend_by_swap(self.farm, Plan(("a",), ("b",), ("a",), ("b",))))

    def test_plan_that_holds(self):
        farm = Farm(("a", 4), ("b", 4))
        self.assert_mended((("b",), ("a",), (), ()), farm, Plan(("a",), ("b",), (), ()))

    def test_exchange_of_equal_days(self):
        # If a is harvested on two days beside each other, it rots later, so 0 and 1 do not do.
        days = (("a",), ("b",), ("a",), ("c",))
        self.assert_mended(days, self.farm, Plan(*days))

    def test_plan_that_holds_and_no_exchange_does(self):
        farm = Farm(("a", 1), ("b", 2))
        plan = Plan(("a",), ("a", "b"), lead=1)
        self.assertIsNone(first_rot(farm, plan))
        self.assertIsNone(mend_by_swap(farm, plan))

    def test_one_day_cannot_be_exchanged(self):
        self.assertIsNone(mend_by_swap(self.farm, Plan(("a", "b", "c"))))

    def test_long_plan(self):
        days = [("a",), ("b",), ("a",), ("c",)] * 100
        wrong = list(days)
        wrong[40], wrong[321] = wrong[321], wrong[40]
        self.assert_mended(tuple(days), self.farm, Plan(*wrong, lead=8))


class NeedlessHarvestsTest(unittest.TestCase):

    def setUp(self):
        self.farm = Farm(("a", 2), ("b", 4), ("c", 4))

    def test_every_harvest_is_needed(self):
        self.assertEqual(needless_harvests(self.farm, Plan(("a",), ("b",), ("a",), ("c",))), [])

    def test_each_can_be_left_out_alone(self):
        self.assertEqual(needless_harvests(Farm(("a", 2)), Plan(("a",), ("a",))), [(0, "a"), (1, "a")])

    def test_order_of_the_names_on_a_day(self):
        farm = Farm(("a", 4), ("b", 4))
        plan = Plan(("b", "a"), ("a", "b"))
        self.assertEqual(needless_harvests(farm, plan), [(0, "b"), (0, "a"), (1, "a"), (1, "b")])

    def test_harvests_before_the_lead(self):
        farm = Farm(("a", 2))
        plan = Plan(("a",), ("a",), (), ("a",), lead=2)
        self.assertEqual(needless_harvests(farm, plan), [(0, "a")])

    def test_only_harvest_of_a_turn(self):
        self.assertEqual(needless_harvests(Farm(("a", 30)), Plan(("a",))), [])
        self.assertEqual(needless_harvests(Farm(("a", 30)), Plan(("a",), ("a",), lead=1)), [(0, "a")])

    def test_harvest_that_is_needed_only_in_later_turns(self):
        plan = Plan(("a",), ("a",), (), ("a",), (), (), lead=1)
        self.assertEqual(needless_harvests(Farm(("a", 3)), plan), [(0, "a")])

    def test_plan_that_rots(self):
        farm = Farm(("a", 2), ("b", 3))
        self.assertEqual(needless_harvests(farm, Plan(("a",), ("a",))), [])
        self.assertEqual(needless_harvests(farm, Plan(("a", "b"), ("a",), ("a",), ("a",), ("b",), lead=2)), [])
        self.assertEqual(needless_harvests(farm, Plan(())), [])

    def test_list_may_be_modified(self):
        plan = Plan(("a",), ("a",))
        found = needless_harvests(Farm(("a", 2)), plan)
        found.clear()
        self.assertEqual(needless_harvests(Farm(("a", 2)), plan), [(0, "a"), (1, "a")])
        self.assertEqual(plan.days, (("a",), ("a",)))

    def test_most_days(self):
        plan = Plan(*[("a",), ("b",), ("a",), ("c",)] * 1250)
        self.assertEqual(needless_harvests(self.farm, plan), [])


class UnknownFieldsTest(unittest.TestCase):

    def test_first_unknown_field_by_days(self):
        farm = Farm(("a", 2), ("b", 4))
        for call in [first_rot, mend_by_swap, needless_harvests]:
            for plan, name in [(Plan(("z",)), "z"),
                               (Plan(("a", "z", "y"), ("x",)), "z"),
                               (Plan(("a",), ("b",), ("a", "y"), ("x",), lead=3), "y"),
                               (Plan(("a",), (), (), ("b", "d"), ("c",)), "d"),
                               (Plan(("a",), ("A",)), "A")]:
                with self.assertRaises(UnknownField) as caught:
                    call(farm, plan)
                self.assertEqual(caught.exception.name, name)

    def test_nothing_changes(self):
        farm = Farm(("a", 2), ("b", 4))
        plan = Plan(("a",), ("a", "b"), ("a",), (), ("a",), lead=1)
        for call in [first_rot, mend_by_swap, needless_harvests]:
            results = [call(farm, plan) for _ in range(3)]
            self.assertEqual(results[0], results[1])
            self.assertEqual(results[0], results[2])
        self.assertEqual(plan, Plan(("a",), ("a", "b"), ("a",), (), ("a",), lead=1))
        self.assertEqual(farm, Farm(("a", 2), ("b", 4)))


class RotExamplesTest(unittest.TestCase):

    def test_mend_by_swap(self):
        farm = Farm(("a", 2), ("b", 4), ("c", 4))
        plan = Plan(("a",), ("b",), ("c",), ("a",))
        found = [first_rot(farm, plan), mend_by_swap(farm, plan).days, first_rot(farm, mend_by_swap(farm, plan))]
        self.assertEqual(found, [(2, "a"), (("b",), ("a",), ("c",), ("a",)), None])


if __name__ == "__main__":
    unittest.main()
