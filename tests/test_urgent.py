import unittest
from itertools import combinations

from harvestcarts.carts import (Cart, LateCart, RestingCart, ShiftCart, carts_on, urgent_days, urgent_plan,
                                urgent_rot)
from harvestcarts.errors import InvalidNumber
from harvestcarts.farms import Farm
from harvestcarts.plans import Plan, first_rot
from harvestcarts.search import find_plan

FARMS = [Farm(("a", 1)), Farm(("a", 3)), Farm(("b", 2), ("a", 4)), Farm(("a", 2), ("b", 4), ("c", 4)),
         Farm(("c", 3), ("b", 3), ("a", 2)), Farm(("a", 2), ("b", 3), ("c", 7)), Farm.equal(3, "a", "c", "d", "b"),
         Farm(("d", 9), ("c", 2), ("b", 5), ("a", 6)), Farm(("a", 1), ("b", 1), ("c", 2))]
CREWS = [[], [Cart("x")], [Cart("x"), Cart("y")], [RestingCart("x", 4), RestingCart("y", 3, day=2)],
         [ShiftCart("x", work=3, pause=2), ShiftCart("y", work=1, pause=1)], [LateCart("x", 2), Cart("y")],
         [LateCart("x", 5), LateCart("y", 1), RestingCart("z", 2)], [Cart("x")] * 7]
WRONG_COUNTS = [-1, 7, 10 ** 18, True, False]
WRONG_DAYS = [-1, 5001, 10 ** 18, True, False]


def urgent_choice(farm, last, day, count):
    """The fields that are due first, where `last` tells the day of the last harvest of each."""
    due = {name: last[name] + farm[name] for name in last}
    ranks = [sorted(due[other] for other in choice) for choice in combinations(farm.names, min(count, len(farm)))]
    for choice in combinations(farm.names, min(count, len(farm))):
        if sorted(due[name] for name in choice) == min(ranks):
            return choice
    return None


def urgent_course(farm, counts):
    """The choices for days with so many carts, and what rots on the last of them."""
    last = {name: -1 for name in farm.names}
    choices = []
    for day, count in enumerate(counts):
        choice = urgent_choice(farm, last, day, count)
        choices.append(choice)
        for name in choice:
            last[name] = day
        for name in farm.names:
            if last[name] + farm[name] == day:
                return choices, (day, name)
    return choices, None


class UrgentTestCase(unittest.TestCase):

    def each_case(self):
        for farm in FARMS:
            for crew in CREWS:
                for days in [0, 1, 2, 3, 7, 40]:
                    choices, rot = urgent_course(farm, [carts_on(crew, day) for day in range(days)])
                    yield farm, crew, days, choices, rot


class UrgentDaysTest(UrgentTestCase):

    def test_all_farms_and_crews(self):
        for farm, crew, days, choices, rot in self.each_case():
            self.assertEqual(list(urgent_days(farm, crew, days)), choices, (farm.fields, days))

    def test_choices_stand_in_the_order_of_the_farm(self):
        farm = Farm(("c", 5), ("a", 2), ("b", 3))
        self.assertEqual(list(urgent_days(farm, [Cart("x"), Cart("y")], 3)), [("a", "b"), ("a", "b"), ("c", "a")])

    def test_of_fields_with_as_many_days_left_the_first_ones_come(self):
        farm = Farm.equal(4, "d", "b", "c", "a")
        self.assertEqual(list(urgent_days(farm, [Cart("x")], 5)), [("d",), ("b",), ("c",), ("a",), ("d",)])
        self.assertEqual(list(urgent_days(farm, [Cart("x")] * 3, 2)), [("d", "b", "c"), ("d", "b", "a")])

    def test_more_carts_than_fields(self):
        farm = Farm(("a", 2), ("b", 3))
        self.assertEqual(list(urgent_days(farm, [Cart("x")] * 7, 2)), [("a", "b"), ("a", "b")])

    def test_days_without_carts(self):
        farm = Farm(("a", 3))
        self.assertEqual(list(urgent_days(farm, [LateCart("x", 2)], 4)), [(), (), ("a",), ("a",)])

    def test_ends_behind_the_first_day_on_which_something_rots(self):
        farm = Farm(("a", 2), ("b", 3), ("c", 7))
        self.assertEqual(len(list(urgent_days(farm, [Cart("x")], 6))), 6)
        for days in [7, 8, 5000]:
            found = list(urgent_days(farm, [Cart("x")], days))
            self.assertEqual(found, [("a",), ("a",), ("b",), ("a",), ("a",), ("b",), ("a",)])
        self.assertEqual(list(urgent_days(farm, [], 5)), [(), ()])

    def test_numbers_of_days(self):
        farm = Farm(("a", 2))
        self.assertEqual(list(urgent_days(farm, [Cart("x")], 0)), [])
        self.assertEqual(len(list(urgent_days(farm, [Cart("x")], 5000))), 5000)
        for days in WRONG_DAYS:
            with self.assertRaises(InvalidNumber):
                list(urgent_days(farm, [Cart("x")], days))

    def test_errors_are_raised_when_the_iteration_begins(self):
        found = urgent_days(Farm(("a", 2)), [], 5001)
        with self.assertRaises(InvalidNumber):
            next(found)

    def test_days_come_one_by_one(self):
        found = urgent_days(Farm(("a", 2), ("b", 2)), [Cart("x")], 5000)
        self.assertIs(iter(found), found)
        self.assertEqual([next(found), next(found), next(found)], [("a",), ("b",), ("a",)])

    def test_the_list_of_carts_is_neither_modified_nor_kept(self):
        crew = [Cart("x")]
        found = urgent_days(Farm(("a", 2), ("b", 2)), crew, 3)
        self.assertEqual(next(found), ("a",))
        crew.append(Cart("y"))
        self.assertEqual(list(found), [("b",), ("a",)])
        self.assertEqual(len(crew), 2)


class UrgentRotTest(UrgentTestCase):

    def test_all_farms_and_crews(self):
        for farm, crew, days, choices, rot in self.each_case():
            self.assertEqual(urgent_rot(farm, crew, days), rot, (farm.fields, days))

    def test_the_first_field_that_rots_in_the_order_of_the_farm(self):
        self.assertEqual(urgent_rot(Farm(("c", 2), ("a", 1), ("b", 1)), [], 3), (0, "a"))
        self.assertEqual(urgent_rot(Farm(("c", 2), ("a", 1), ("b", 1)), [Cart("x")], 3), (0, "b"))
        self.assertEqual(urgent_rot(Farm(("d", 3), ("b", 2), ("e", 2), ("c", 2), ("a", 2)), [Cart("x")], 9), (1, "c"))

    def test_only_the_first_days_count(self):
        farm = Farm(("a", 3))
        self.assertIsNone(urgent_rot(farm, [], 0))
        self.assertIsNone(urgent_rot(farm, [], 2))
        self.assertEqual(urgent_rot(farm, [], 3), (2, "a"))
        self.assertEqual(urgent_rot(farm, [RestingCart("x", 2)], 5000), None)

    def test_the_last_of_5000_days(self):
        farm = Farm(("a", 30))
        crew = [ShiftCart("x", work=994, pause=30)]
        self.assertEqual(urgent_rot(farm, crew, 5000), (1023, "a"))
        self.assertIsNone(urgent_rot(farm, crew, 1023))
        self.assertIsNone(urgent_rot(farm, [ShiftCart("x", work=994, pause=29)], 5000))
        self.assertEqual(urgent_rot(Farm(("a", 1)), [RestingCart("x", 1000, day=999)], 5000), (999, "a"))

    def test_wrong_numbers_of_days(self):
        for days in WRONG_DAYS:
            with self.assertRaises(InvalidNumber):
                urgent_rot(Farm(("a", 2)), [Cart("x")], days)

    def test_the_list_of_carts_is_left_as_it_is(self):
        crew = list(CREWS[3])
        before = [id(cart) for cart in crew]
        self.assertEqual(urgent_rot(FARMS[3], crew, 40), urgent_rot(FARMS[3], crew, 40))
        self.assertEqual([id(cart) for cart in crew], before)


class UrgentPlanTest(UrgentTestCase):

    def test_plans_are_those_of_the_rule(self):
        for farm in FARMS:
            for count in range(7):
                plan = urgent_plan(farm, count)
                choices, rot = urgent_course(farm, [count] * 60)
                if plan is None:
                    self.assertIsNotNone(rot, (farm.fields, count))
                    continue
                self.assertIsNone(rot)
                self.assertIsNone(first_rot(farm, plan))
                self.assertEqual([plan[day] for day in range(60)], choices)

    def test_plans_have_the_least_lead_and_days(self):
        for farm in FARMS:
            for count in range(1, 7):
                plan = urgent_plan(farm, count)
                if plan is not None:
                    self.assertEqual((plan.lead, len(plan)), self.first_return(farm, plan), (farm.fields, count))

    def first_return(self, farm, plan):
        """The first day before which the last harvests are as long ago as before a later one, and that one."""
        ages = {name: 1 for name in farm.names}
        seen = []
        while ages not in seen:
            seen.append(dict(ages))
            day = len(seen) - 1
            ages = {name: 1 if name in plan[day] else ages[name] + 1 for name in ages}
        return seen.index(ages), len(seen)

    def test_a_plan_of_the_search_where_the_rule_finds_none(self):
        farm = Farm(("a", 2), ("b", 4), ("c", 4))
        self.assertIsNone(urgent_plan(farm, 1))
        self.assertIsNone(first_rot(farm, find_plan(farm, 1)))
        self.assertEqual(urgent_rot(farm, [Cart("x")], 5000), (3, "c"))

    def test_no_carts(self):
        self.assertIsNone(urgent_plan(Farm(("a", 30)), 0))

    def test_all_fields_each_day(self):
        for count in [2, 3, 6]:
            self.assertEqual(urgent_plan(Farm(("b", 1), ("a", 9)), count), Plan(("b", "a")))

    def test_numbers_of_carts(self):
        for count in WRONG_COUNTS:
            with self.assertRaises(InvalidNumber):
                urgent_plan(Farm(("a", 2)), count)

    def test_long_plans(self):
        farm = Farm(("a", 3), ("b", 29), ("c", 30))
        plan = urgent_plan(farm, 1)
        self.assertEqual((plan.lead, len(plan)), (728, 757))
        self.assertIsNone(first_rot(farm, plan))
        self.assertEqual((plan.lead, len(plan)), self.first_return(farm, plan))

    def test_repeated_calls(self):
        self.assertEqual(urgent_plan(FARMS[3], 2), urgent_plan(FARMS[3], 2))


class UrgentExamplesTest(UrgentTestCase):

    def test_urgent_days(self):
        farm = Farm(("a", 2), ("b", 3), ("c", 7))
        self.assertEqual(list(urgent_days(farm, [Cart("x")], 3)), [("a",), ("a",), ("b",)])

    def test_urgent_rot(self):
        farm = Farm(("a", 2), ("b", 3), ("c", 7))
        self.assertEqual([urgent_rot(farm, [Cart("x")], 100), urgent_rot(farm, [Cart("x")], 6)], [(6, "c"), None])

    def test_urgent_plan(self):
        plan = urgent_plan(Farm(("a", 2), ("b", 3)), 1)
        self.assertEqual([plan.days, plan.lead], [(("a",), ("a",), ("b",), ("a",)), 1])


if __name__ == "__main__":
    unittest.main()
