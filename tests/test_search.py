import unittest
from itertools import combinations, product

from harvestcarts.errors import InvalidNumber
from harvestcarts.farms import Farm, least_carts
from harvestcarts.plans import Plan, first_rot
from harvestcarts.search import choices_that_last, fewest_carts, find_plan, longest_days, states_left

SMALL_FARMS = ([Farm(("a", one)) for one in (1, 2, 5)]
               + [Farm(("b", one), ("a", other)) for one in (1, 2, 3) for other in (1, 3, 4)]
               + [Farm(*zip("cab", limits)) for limits in product((1, 2, 3, 4), repeat=3)]
               + [Farm(*zip("dabc", limits)) for limits in [(2, 2, 2, 2), (1, 3, 3, 3), (4, 4, 4, 4), (3, 2, 4, 2)]])
LARGE_FARMS = [Farm(("a", 20), ("b", 20), ("c", 10)),
               Farm(("a", 30), ("b", 30), ("c", 4)),
               Farm(("a", 5), ("b", 5), ("c", 5), ("d", 4), ("e", 4), ("f", 2))]
WRONG_NUMBERS_OF_CARTS = [-1, 7, 10 ** 18, -10 ** 18, True, False]


class States:
    """A search of the tests' own, by layers of all states that there can be before a day."""

    def __init__(self, farm, carts):
        self.farm = farm
        self.choices = list(combinations(farm.names, min(carts, len(farm))))
        self.found = {}

    def after(self, left, choice):
        """What is left for the fields behind a day, or None if something rots."""
        if any(left[name] == 1 and name not in choice for name in left):
            return None
        return {name: self.farm[name] if name in choice else left[name] - 1 for name in left}

    def days_from(self, left):
        """For how many days nothing rots at most, None if for ever, until a layer comes again."""
        key = tuple(left.values())
        if key not in self.found:
            layers = []
            layer = frozenset([key])
            while layer and layer not in layers:
                layers.append(layer)
                layer = frozenset(after for state in layer for after in self.all_after(state))
            self.found[key] = None if layer else len(layers) - 1
        return self.found[key]

    def all_after(self, state):
        afters = [self.after(dict(zip(self.farm.names, state)), choice) for choice in self.choices]
        return [tuple(after.values()) for after in afters if after is not None]

    def plan(self):
        """What find_plan returns: its days and its lead, or None."""
        left = dict(self.farm.fields)
        if self.days_from(left) is not None:
            return None
        since = [{name: 1 for name in left}]
        days = []
        while True:
            choice = self.lasting_choices(left)[0]
            left = self.after(left, choice)
            days.append(choice)
            now = {name: 1 if name in choice else ago + 1 for name, ago in since[-1].items()}
            if now in since:
                return tuple(days), since.index(now)
            since.append(now)

    def lasting_choices(self, left):
        found = []
        for choice in self.choices:
            after = self.after(left, choice)
            if after is not None and self.days_from(after) is None:
                found.append(choice)
        return found


class SearchTestCase(unittest.TestCase):

    def assert_number(self, call, *args):
        with self.assertRaises(InvalidNumber):
            call(*args)


class OwnSearchTest(SearchTestCase):

    def test_longest_days(self):
        for farm in SMALL_FARMS:
            for carts in range(7):
                states = States(farm, carts)
                self.assertEqual(longest_days(farm, carts), states.days_from(dict(farm.fields)), (farm.fields, carts))

    def test_find_plan(self):
        for farm in SMALL_FARMS:
            for carts in range(7):
                plan = find_plan(farm, carts)
                found = None if plan is None else (plan.days, plan.lead)
                self.assertEqual(found, States(farm, carts).plan(), (farm.fields, carts))

    def test_fewest_carts(self):
        for farm in SMALL_FARMS:
            enough = [carts for carts in range(7) if States(farm, carts).days_from(dict(farm.fields)) is None]
            self.assertEqual(fewest_carts(farm), min(enough), farm.fields)

    def test_choices_that_last(self):
        for farm in SMALL_FARMS[::3]:
            for carts in range(len(farm) + 1):
                states = States(farm, carts)
                for many in range(4 if len(farm) < 4 else 2):
                    for days in product(states.choices, repeat=many):
                        left = dict(farm.fields)
                        for choice in days:
                            left = None if left is None else states.after(left, choice)
                        expected = None if left is None else states.lasting_choices(left)
                        self.assertEqual(choices_that_last(farm, carts, *days), expected, (farm.fields, carts, days))

    def test_states_left(self):
        for farm in SMALL_FARMS:
            for carts in range(len(farm) + 1):
                states = States(farm, carts)
                layer = {farm.limits}
                expected = []
                while layer and len(expected) < 13:
                    expected.append(len(layer))
                    layer = {after for state in layer for after in states.all_after(state)}
                self.assertEqual(list(states_left(farm, carts, 12)), expected, (farm.fields, carts))


class LongestDaysTest(SearchTestCase):

    def test_no_end(self):
        self.assertIsNone(longest_days(Farm(("a", 2), ("b", 4), ("c", 4)), 1))
        self.assertIsNone(longest_days(Farm(("a", 1)), 1))

    def test_an_end(self):
        farm = Farm(("a", 2), ("b", 3), ("c", 7))
        self.assertEqual(longest_days(farm, 1), 8)
        self.assertIsNone(longest_days(farm, 2))
        self.assertEqual(longest_days(Farm(("a", 2), ("b", 3), ("c", 30)), 1), 31)

    def test_no_carts(self):
        self.assertEqual(longest_days(Farm(("a", 1)), 0), 0)
        self.assertEqual(longest_days(Farm(("a", 30)), 0), 29)
        self.assertEqual(longest_days(Farm(("a", 9), ("b", 4), ("c", 7)), 0), 3)

    def test_limit_1(self):
        farm = Farm(("a", 1), ("b", 1), ("c", 5))
        self.assertEqual([longest_days(farm, carts) for carts in range(7)], [0, 0, 4, None, None, None, None])

    def test_six_fields_with_limit_1(self):
        farm = Farm(*[(name, 1) for name in "abcdef"])
        self.assertEqual(longest_days(farm, 5), 0)
        self.assertIsNone(longest_days(farm, 6))

    def test_more_carts_than_fields(self):
        for carts in range(2, 7):
            self.assertIsNone(longest_days(Farm(("a", 1), ("b", 1)), carts))

    def test_wrong_numbers_of_carts(self):
        for carts in WRONG_NUMBERS_OF_CARTS:
            self.assert_number(longest_days, Farm(("a", 2)), carts)

    def test_greatest_products(self):
        for farm in LARGE_FARMS:
            self.assertEqual(longest_days(farm, 0), min(farm.limits) - 1)
            self.assertIsNone(longest_days(farm, 6))
        self.assertEqual(longest_days(LARGE_FARMS[2], 1), 4)
        # Its share is 1.6, so one cart is too few.
        self.assertIsNone(longest_days(LARGE_FARMS[2], 2))


class FindPlanTest(SearchTestCase):

    def assert_plan(self, farm, carts, days, lead):
        plan = find_plan(farm, carts)
        self.assertIsInstance(plan, Plan)
        self.assertEqual((plan.days, plan.lead), (days, lead))

    def test_plan(self):
        self.assert_plan(Farm(("a", 2), ("b", 3)), 1, (("a",), ("a",), ("b",), ("a",)), 1)

    def test_no_plan(self):
        self.assertIsNone(find_plan(Farm(("a", 2), ("b", 3), ("c", 7)), 1))
        self.assertIsNone(find_plan(Farm(("a", 1)), 0))

    def test_one_field(self):
        for limit in (1, 2, 30):
            self.assert_plan(Farm(("a", limit)), 1, (("a",),), 0)

    def test_fields_count_as_harvested_on_the_day_before_day_0(self):
        self.assert_plan(Farm(("a", 5), ("b", 9)), 2, (("a", "b"),), 0)

    def test_all_fields_if_there_are_fewer_than_carts(self):
        for carts in range(3, 7):
            self.assert_plan(Farm(("b", 1), ("c", 4), ("a", 2)), carts, (("b", "c", "a"),), 0)

    def test_choices_are_compared_by_the_places_of_the_names(self):
        self.assert_plan(Farm(("b", 2), ("a", 2)), 1, (("b",), ("a",), ("b",)), 1)
        self.assert_plan(Farm(("b", 3), ("a", 3), ("c", 3)), 2,
                         (("b", "a"), ("b", "a"), ("b", "c"), ("b", "a")), 1)

    def test_first_choice_is_made_as_long_as_it_can_be(self):
        self.assert_plan(Farm(("a", 30), ("b", 3)), 1, (("a",), ("a",), ("b",), ("a",)), 1)

    def test_first_choice_that_lasts_is_not_the_first_choice_without_rot(self):
        farm = Farm(("b", 4), ("c", 4), ("a", 2))
        # Nothing rots with b on day 2, but then both c and a have to be harvested on day 3.
        self.assertEqual(find_plan(farm, 1).days[:4], (("b",), ("a",), ("c",), ("a",)))

    def test_nothing_ever_rots_and_no_choice_is_too_small(self):
        for farm in SMALL_FARMS + LARGE_FARMS:
            for carts in range(least_carts(farm), 7):
                plan = find_plan(farm, carts)
                if plan is not None:
                    self.assertIsNone(first_rot(farm, plan), (farm.fields, carts))
                    self.assertEqual({len(names) for names in plan.days}, {min(carts, len(farm))})

    def test_greatest_products(self):
        plan = find_plan(LARGE_FARMS[1], 1)
        self.assertEqual((len(plan), plan.lead), (119, 59))
        self.assertEqual(plan.days[:5], (("a",), ("a",), ("a",), ("c",), ("a",)))
        self.assertIsNone(find_plan(LARGE_FARMS[2], 1))

    def test_wrong_numbers_of_carts(self):
        for carts in WRONG_NUMBERS_OF_CARTS:
            self.assert_number(find_plan, Farm(("a", 2)), carts)

    def test_repeated_calls(self):
        farm = Farm(("a", 2), ("b", 4), ("c", 4))
        self.assertEqual(find_plan(farm, 1), find_plan(farm, 1))
        self.assertEqual(farm, Farm(("a", 2), ("b", 4), ("c", 4)))


class FewestCartsTest(SearchTestCase):

    def test_share_is_enough(self):
        self.assertEqual(fewest_carts(Farm(("a", 2), ("b", 4), ("c", 4))), 1)
        self.assertEqual(fewest_carts(Farm(("a", 30))), 1)

    def test_more_than_the_share(self):
        farm = Farm(("a", 2), ("b", 3), ("c", 30))
        self.assertEqual((least_carts(farm), fewest_carts(farm)), (1, 2))

    def test_a_cart_for_each_field(self):
        self.assertEqual(fewest_carts(Farm(*[(name, 1) for name in "abcdef"])), 6)
        self.assertEqual(fewest_carts(Farm(("a", 1), ("b", 30))), 2)

    def test_greatest_products(self):
        self.assertEqual([fewest_carts(farm) for farm in LARGE_FARMS], [1, 1, 2])


class StatesLeftTest(SearchTestCase):

    def test_from_day_0_on(self):
        farm = Farm(("a", 2), ("b", 2))
        self.assertEqual(list(states_left(farm, 1, 0)), [1])
        self.assertEqual(list(states_left(farm, 1, 1)), [1, 2])
        self.assertEqual(list(states_left(farm, 1, 5)), [1, 2, 2, 2, 2, 2])

    def test_ends_where_no_state_is_left(self):
        farm = Farm(("a", 3))
        self.assertEqual(list(states_left(farm, 0, 1)), [1, 1])
        self.assertEqual(list(states_left(farm, 0, 2)), [1, 1, 1])
        self.assertEqual(list(states_left(farm, 0, 3)), [1, 1, 1])
        self.assertEqual(list(states_left(farm, 0, 1000)), [1, 1, 1])
        self.assertEqual(list(states_left(Farm(("a", 1)), 0, 7)), [1])

    def test_states_before_the_end(self):
        found = list(states_left(Farm(("a", 2), ("b", 3), ("c", 7)), 1, 1000))
        # Nothing rots for 8 days, and so there are states before day 0 to day 8.
        self.assertEqual(len(found), 9)
        self.assertEqual(found[:3], [1, 3, 5])

    def test_days(self):
        farm = Farm(("a", 2), ("b", 2))
        self.assertEqual(len(list(states_left(farm, 1, 1000))), 1001)
        for day in [-1, 1001, 10 ** 18, True, False]:
            self.assert_number(list, states_left(farm, 1, day))

    def test_wrong_numbers_of_carts(self):
        for carts in WRONG_NUMBERS_OF_CARTS:
            self.assert_number(list, states_left(Farm(("a", 2)), carts, 3))

    def test_carts_are_checked_before_the_day(self):
        with self.assertRaisesRegex(InvalidNumber, "^7 "):
            list(states_left(Farm(("a", 2)), 7, 1001))

    def test_errors_are_raised_when_the_iteration_begins(self):
        states = states_left(Farm(("a", 2)), 7, 3)
        with self.assertRaises(InvalidNumber):
            next(states)
        states = states_left(Farm(("a", 2)), 1, -1)
        with self.assertRaises(InvalidNumber):
            next(states)

    def test_greatest_products(self):
        found = list(states_left(LARGE_FARMS[1], 1, 1000))
        self.assertEqual((len(found), found[0], found[1]), (1001, 1, 3))


class ChoicesThatLastTest(SearchTestCase):

    def setUp(self):
        self.farm = Farm(("b", 2), ("a", 4), ("c", 4))

    def test_no_choice(self):
        self.assertEqual(choices_that_last(self.farm, 1), [("b",), ("a",), ("c",)])

    def test_some_choices(self):
        self.assertEqual(choices_that_last(self.farm, 1, ("a",)), [("b",)])
        self.assertEqual(choices_that_last(self.farm, 1, ("a",), ("b",)), [("c",)])
        self.assertEqual(choices_that_last(self.farm, 1, ("a",), ("b",), ("c",), ("b",)), [("a",)])

    def test_list_order(self):
        found = choices_that_last(Farm(("d", 9), ("a", 9), ("c", 9)), 2)
        self.assertEqual(found, [("d", "a"), ("d", "c"), ("a", "c")])

    def test_no_cart(self):
        self.assertEqual(choices_that_last(self.farm, 0), [])
        self.assertEqual(choices_that_last(self.farm, 0, ()), [])
        self.assertIsNone(choices_that_last(self.farm, 0, (), ()))
        self.assertIsNone(choices_that_last(self.farm, 0, ("b",)))

    def test_more_carts_than_fields(self):
        self.assertEqual(choices_that_last(self.farm, 6), [("b", "a", "c")])
        self.assertEqual(choices_that_last(self.farm, 6, ("b", "a", "c")), [("b", "a", "c")])
        self.assertIsNone(choices_that_last(self.farm, 6, ("b", "a")))

    def test_tuples_that_are_no_choices(self):
        for wrong in [("b",), ("b", "a", "c"), (), ("a", "b"), ("c", "b"), ("b", "b"), ("b", "z"), ("b", "A")]:
            self.assertIsNone(choices_that_last(self.farm, 2, wrong), wrong)
            self.assertIsNone(choices_that_last(self.farm, 2, ("b", "a"), wrong), wrong)
            self.assertIsNone(choices_that_last(self.farm, 2, wrong, ("b", "a")), wrong)
        self.assertIsNotNone(choices_that_last(self.farm, 2, ("b", "a"), ("b", "c")))

    def test_choices_with_which_something_rots(self):
        self.assertIsNone(choices_that_last(self.farm, 1, ("a",), ("c",)))
        self.assertIsNone(choices_that_last(self.farm, 1, ("a",), ("c",), ("b",)))
        self.assertIsNone(choices_that_last(Farm(("a", 1), ("b", 1)), 1, ("a",)))

    def test_empty_list_if_something_has_to_rot_only_later(self):
        self.assertEqual(choices_that_last(self.farm, 1, ("b",), ("b",), ("b",)), [])
        self.assertEqual(choices_that_last(self.farm, 1, ("b",), ("b",)), [])
        self.assertEqual(choices_that_last(Farm(("a", 2), ("b", 3), ("c", 7)), 1), [])

    def test_first_choice_is_that_of_find_plan(self):
        farm = Farm(("a", 4), ("b", 3), ("c", 6), ("d", 6))
        plan = find_plan(farm, 1)
        for day in range(len(plan)):
            self.assertEqual(choices_that_last(farm, 1, *plan.days[:day])[0], plan[day])

    def test_wrong_numbers_of_carts(self):
        for carts in WRONG_NUMBERS_OF_CARTS:
            self.assert_number(choices_that_last, self.farm, carts)
            self.assert_number(choices_that_last, self.farm, carts, ("z",))

    def test_lists_are_new(self):
        found = choices_that_last(self.farm, 1)
        found.clear()
        self.assertEqual(choices_that_last(self.farm, 1), [("b",), ("a",), ("c",)])

    def test_greatest_products(self):
        self.assertEqual(choices_that_last(LARGE_FARMS[0], 1, ("a",), ("a",)), [("a",), ("b",), ("c",)])
        self.assertEqual(choices_that_last(LARGE_FARMS[2], 1), [])


class ArgumentsTest(SearchTestCase):

    def test_keyword_arguments(self):
        farm = Farm(("a", 2), ("b", 2))
        self.assertIsNone(longest_days(farm=farm, carts=1))
        self.assertEqual(find_plan(farm=farm, carts=1), find_plan(farm, 1))
        self.assertEqual(fewest_carts(farm=farm), 1)
        self.assertEqual(list(states_left(farm=farm, carts=1, days=2)), [1, 2, 2])
        self.assertEqual(choices_that_last(farm=farm, carts=1), [("a",), ("b",)])


class SearchExamplesTest(SearchTestCase):

    def test_plan(self):
        farm = Farm(("a", 2), ("b", 4), ("c", 4))
        plan = find_plan(farm, 1)
        found = [plan.days, plan.lead, longest_days(farm, 1), longest_days(farm, 0), fewest_carts(farm)]
        self.assertEqual(found, [(("a",), ("b",), ("a",), ("c",), ("a",), ("b",)), 2, None, 1, 1])

    def test_no_plan(self):
        farm = Farm(("a", 2), ("b", 3), ("c", 7))
        self.assertEqual([find_plan(farm, 1), longest_days(farm, 1), fewest_carts(farm)], [None, 8, 2])

    def test_states_and_choices(self):
        farm = Farm(("a", 2), ("b", 2))
        found = [list(states_left(farm, 1, 3)), choices_that_last(farm, 1), choices_that_last(farm, 1, ("a",)),
                 choices_that_last(farm, 1, ("a",), ("a",))]
        self.assertEqual(found, [[1, 2, 2, 2], [("a",), ("b",)], [("b",)], None])


if __name__ == "__main__":
    unittest.main()
