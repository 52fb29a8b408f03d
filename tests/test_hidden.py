import unittest
from itertools import combinations, product

from harvestcarts.errors import Contradiction, InvalidNumber, UnknownField
from harvestcarts.farms import Farm
from harvestcarts.hidden import PlanObserver
from harvestcarts.search import find_plan, longest_days

SMALL_FARMS = [Farm(("a", 1)), Farm(("a", 3)), Farm(("b", 2), ("a", 4)), Farm(("a", 2), ("b", 4), ("c", 4)),
               Farm(("c", 3), ("b", 3), ("a", 2)), Farm(("c", 2), ("a", 3), ("b", 7)), Farm.equal(3, "a", "c", "d", "b")]


class AllWays:
    """A list of the tests' own of all ways in which choices can have been made."""

    def __init__(self, farm, carts):
        self.farm = farm
        self.choices = list(combinations(farm.names, min(carts, len(farm))))
        self.ways = [()]

    def left(self, way):
        """What is left for the fields behind the days of a way, or None if something rots."""
        left = dict(self.farm.fields)
        for choice in way:
            if any(left[name] == 1 and name not in choice for name in left):
                return None
            left = {name: self.farm[name] if name in choice else left[name] - 1 for name in left}
        return left

    def pass_day(self):
        longer = [way + (choice,) for way, choice in product(self.ways, self.choices)]
        self.ways = [way for way in longer if self.left(way) is not None]

    def see_left(self, name, days):
        self.ways = [way for way in self.ways if self.left(way)[name] == days]

    def possible_left(self, name):
        return sorted({self.left(way)[name] for way in self.ways})

    def can_last(self):
        return len([way for way in self.ways if self.lasts(self.left(way))])

    def lasts(self, left):
        """Tell whether nothing ever has to rot, by layers of states until one comes again."""
        layers = []
        layer = frozenset([tuple(left.items())])
        while layer and layer not in layers:
            layers.append(layer)
            layer = frozenset(after for state in layer for after in self.all_after(dict(state)))
        return bool(layer)

    def all_after(self, left):
        for choice in self.choices:
            if all(left[name] > 1 or name in choice for name in left):
                yield tuple((name, self.farm[name] if name in choice else left[name] - 1) for name in left)


class ObserverTestCase(unittest.TestCase):

    def state_of(self, observer, names):
        """All that an observer tells, to see that nothing of it changes."""
        return (observer.today, observer.records, observer.pass_days(0), observer.can_last(),
                [observer.possible_left(name) for name in names])

    def assert_raises_without_changes(self, error, observer, names, call, *args):
        before = self.state_of(observer, names)
        with self.assertRaises(error) as caught:
            call(*args)
        self.assertEqual(self.state_of(observer, names), before, args)
        return caught.exception


class AllWaysTest(ObserverTestCase):

    def assert_alike(self, observer, ways):
        self.assertEqual(observer.pass_days(0), len(ways.ways))
        self.assertEqual(observer.can_last(), ways.can_last())
        for name in ways.farm.names:
            self.assertEqual(observer.possible_left(name), ways.possible_left(name))

    def test_days_without_observations(self):
        for farm in SMALL_FARMS:
            for carts in range(len(farm) + 2):
                observer = PlanObserver(farm, carts)
                ways = AllWays(farm, carts)
                for day in range(5):
                    self.assert_alike(observer, ways)
                    ways.pass_day()
                    if not ways.ways:
                        break
                    self.assertEqual(observer.pass_days(1), len(ways.ways), (farm.fields, carts, day))

    def test_each_single_observation(self):
        for farm in SMALL_FARMS:
            for carts in range(1, len(farm) + 1):
                for name, limit in farm.fields:
                    for days in range(-1, limit + 2):
                        self.check_observation(farm, carts, name, days)

    def check_observation(self, farm, carts, name, days):
        most = longest_days(farm, carts)
        passed = 3 if most is None else min(3, most)
        observer = PlanObserver(farm, carts)
        observer.pass_days(passed)
        ways = AllWays(farm, carts)
        for _ in range(passed):
            ways.pass_day()
        ways.see_left(name, days)
        if not ways.ways:
            self.assert_raises_without_changes(Contradiction, observer, farm.names, observer.see_left, name, days)
            return
        self.assertEqual(observer.see_left(name, days), len(ways.ways))
        self.assert_alike(observer, ways)
        ways.pass_day()
        if ways.ways:
            self.assertEqual(observer.pass_days(1), len(ways.ways))
            self.assert_alike(observer, ways)
        else:
            self.assert_raises_without_changes(Contradiction, observer, farm.names, observer.pass_days, 1)

    def test_observations_of_a_plan(self):
        farm = Farm(("a", 3), ("b", 4), ("c", 5))
        plan = find_plan(farm, 1)
        observer = PlanObserver(farm, 1)
        ways = AllWays(farm, 1)
        done = ()
        for day in range(6):
            observer.pass_days(1)
            ways.pass_day()
            done = done + (plan[day],)
            name = farm.names[day % 3]
            days = ways.left(done)[name]
            ways.see_left(name, days)
            self.assertEqual(observer.see_left(name, days), len(ways.ways))
            self.assert_alike(observer, ways)
            self.assertGreaterEqual(observer.can_last(), 1)
        self.assertEqual([record[:2] for record in observer.records],
                         [(1, "a"), (2, "b"), (3, "c"), (4, "a"), (5, "b"), (6, "c")])


class MakingObserversTest(ObserverTestCase):

    def test_before_day_0(self):
        observer = PlanObserver(Farm(("a", 2), ("b", 4), ("c", 4)), 1)
        self.assertEqual((observer.today, observer.records, observer.pass_days(0)), (0, [], 1))
        self.assertEqual([observer.possible_left(name) for name in "abc"], [[2], [4], [4]])
        self.assertEqual(observer.can_last(), 1)

    def test_too_few_carts(self):
        self.assertEqual(PlanObserver(Farm(("a", 2), ("b", 3), ("c", 7)), 1).can_last(), 0)
        self.assertEqual(PlanObserver(Farm(("a", 2), ("b", 3), ("c", 7)), 2).can_last(), 1)

    def test_numbers_of_carts(self):
        farm = Farm(("a", 2), ("b", 4))
        for carts in range(7):
            self.assertEqual(PlanObserver(farm, carts).today, 0)
        for carts in [-1, 7, 10 ** 18, True, False]:
            with self.assertRaises(InvalidNumber):
                PlanObserver(farm, carts)

    def test_observers_are_of_their_own(self):
        farm = Farm(("a", 2), ("b", 4))
        one, other = PlanObserver(farm, 1), PlanObserver(farm, 1)
        one.pass_days(2)
        one.see_left("a", 2)
        self.assertEqual((other.today, other.records, other.pass_days(0)), (0, [], 1))
        self.assertEqual(farm, Farm(("a", 2), ("b", 4)))


class PassDaysTest(ObserverTestCase):

    def setUp(self):
        self.farm = Farm(("a", 2), ("b", 4), ("c", 4))
        self.observer = PlanObserver(self.farm, 1)

    def test_no_days(self):
        self.observer.pass_days(2)
        self.assertEqual(self.observer.pass_days(0), self.observer.pass_days(0))
        self.assertEqual(self.observer.today, 2)

    def test_days_at_once_and_one_by_one(self):
        other = PlanObserver(self.farm, 1)
        ways = [other.pass_days(1) for _ in range(7)]
        self.assertEqual(self.observer.pass_days(7), ways[-1])
        self.assertEqual(ways[:2], [3, 5])
        self.assertEqual(self.state_of(self.observer, "abc"), self.state_of(other, "abc"))
        self.assertEqual(other.today, 7)

    def test_most_days(self):
        observer = PlanObserver(Farm(("a", 2), ("b", 2)), 1)
        self.assertEqual(observer.pass_days(100), 2)
        self.assertEqual(observer.today, 100)
        self.assertEqual(observer.pass_days(100), 2)
        self.assertEqual(observer.today, 200)

    def test_large_numbers_of_ways(self):
        observer = PlanObserver(Farm(("a", 1), ("b", 30), ("c", 30)), 2)
        # a is always harvested; of b and c, none rots in the first 29 days.
        self.assertEqual(observer.pass_days(29), 2 ** 29)
        self.assertEqual(observer.pass_days(1), 2 ** 30 - 2)

    def test_numbers_of_days(self):
        for days in [-1, 101, 10 ** 18, True, False]:
            self.assert_raises_without_changes(InvalidNumber, self.observer, "abc", self.observer.pass_days, days)
        self.observer.pass_days(1)
        for days in [-1, 101]:
            self.assert_raises_without_changes(InvalidNumber, self.observer, "abc", self.observer.pass_days, days)
        self.assertEqual(self.observer.today, 1)

    def test_contradiction(self):
        farm = Farm(("a", 2), ("b", 3), ("c", 7))
        observer = PlanObserver(farm, 1)
        self.assert_raises_without_changes(Contradiction, observer, "abc", observer.pass_days, 9)
        self.assert_raises_without_changes(Contradiction, observer, "abc", observer.pass_days, 100)
        self.assertGreaterEqual(observer.pass_days(8), 1)
        self.assertEqual((observer.today, observer.can_last()), (8, 0))
        self.assert_raises_without_changes(Contradiction, observer, "abc", observer.pass_days, 1)
        self.assertEqual(observer.today, 8)

    def test_no_carts(self):
        observer = PlanObserver(Farm(("a", 3)), 0)
        self.assertEqual(observer.pass_days(2), 1)
        self.assertEqual(observer.possible_left("a"), [1])
        self.assert_raises_without_changes(Contradiction, observer, "a", observer.pass_days, 1)

    def test_contradiction_by_observations(self):
        observer = PlanObserver(Farm(("a", 3), ("b", 3), ("c", 3)), 1)
        observer.pass_days(2)
        self.assertEqual(observer.see_left("a", 1), 4)
        self.assertEqual(observer.see_left("b", 1), 1)
        self.assert_raises_without_changes(Contradiction, observer, "abc", observer.pass_days, 1)
        self.assertEqual((observer.today, observer.records), (2, [(2, "a", 1), (2, "b", 1)]))


class SeeLeftTest(ObserverTestCase):

    def setUp(self):
        self.farm = Farm(("a", 2), ("b", 4), ("c", 4))
        self.observer = PlanObserver(self.farm, 1)

    def test_true_numbers_of_days(self):
        self.assertEqual(self.observer.see_left("a", 2), 1)
        self.observer.pass_days(1)
        self.assertEqual(self.observer.see_left("a", 1), 2)
        self.assertEqual(self.observer.see_left("c", 3), 1)
        self.assertEqual(self.observer.possible_left("b"), [4])
        self.assertEqual(self.observer.records, [(0, "a", 2), (1, "a", 1), (1, "c", 3)])

    def test_repeated_observation_is_recorded_again(self):
        self.assertEqual([self.observer.see_left("a", 2), self.observer.see_left("a", 2)], [1, 1])
        self.assertEqual(self.observer.records, [(0, "a", 2), (0, "a", 2)])

    def test_impossible_numbers_of_days(self):
        for days in [1, 3, 0, -1, 31, 10 ** 18]:
            self.assert_raises_without_changes(Contradiction, self.observer, "abc", self.observer.see_left, "a", days)
        self.observer.pass_days(1)
        self.observer.see_left("b", 4)
        for name, days in [("b", 3), ("c", 4), ("a", 2), ("c", 2)]:
            self.assert_raises_without_changes(Contradiction, self.observer, "abc", self.observer.see_left, name, days)
        self.assertEqual(self.observer.records, [(1, "b", 4)])

    def test_boolean_is_no_number_of_days(self):
        observer = PlanObserver(Farm(("a", 1)), 1)
        self.assert_raises_without_changes(Contradiction, observer, "a", observer.see_left, "a", True)
        self.assertEqual(observer.see_left("a", 1), 1)

    def test_unknown_fields(self):
        for name in ["d", "", "A", "ab"]:
            for days in [1, 0, 99]:
                error = self.assert_raises_without_changes(UnknownField, self.observer, "abc",
                                                           self.observer.see_left, name, days)
                self.assertEqual(error.name, name)

    def test_days_pass_behind_an_observation(self):
        self.observer.pass_days(1)
        self.observer.see_left("b", 4)
        self.assertEqual(self.observer.pass_days(1), 1)
        self.assertEqual([self.observer.possible_left(name) for name in "abc"], [[2], [3], [2]])


class ReadingObserversTest(ObserverTestCase):

    def setUp(self):
        self.farm = Farm(("a", 2), ("b", 4), ("c", 4))
        self.observer = PlanObserver(self.farm, 1)
        self.observer.pass_days(2)

    def test_possible_left(self):
        self.assertEqual([self.observer.possible_left(name) for name in "abc"], [[1, 2], [2, 3, 4], [2, 3, 4]])

    def test_possible_left_of_unknown_fields(self):
        for name in ["d", "", "A"]:
            error = self.assert_raises_without_changes(UnknownField, self.observer, "abc",
                                                       self.observer.possible_left, name)
            self.assertEqual(error.name, name)

    def test_can_last(self):
        # a a, a b, a c, b a and c a; behind a a, there is no time for both b and c.
        self.assertEqual(self.observer.pass_days(0), 5)
        self.assertEqual(self.observer.can_last(), 4)

    def test_returned_lists_are_new_ones(self):
        self.observer.see_left("b", 4)
        self.observer.records.append((0, "a", 0))
        self.observer.records.clear()
        self.assertEqual(self.observer.records, [(2, "b", 4)])
        records = self.observer.records
        self.observer.see_left("b", 4)
        self.assertEqual(records, [(2, "b", 4)])
        self.observer.possible_left("a").clear()
        self.assertEqual(self.observer.possible_left("a"), [1])

    def test_repeated_calls(self):
        self.assertEqual(self.state_of(self.observer, "abc"), self.state_of(self.observer, "abc"))

    def test_properties_cannot_be_assigned(self):
        with self.assertRaises(AttributeError):
            self.observer.today = 3
        with self.assertRaises(AttributeError):
            self.observer.records = []

    def test_keyword_arguments(self):
        observer = PlanObserver(farm=self.farm, carts=1)
        self.assertEqual(observer.pass_days(count=2), 5)
        self.assertEqual(observer.see_left(name="b", days=4), 1)
        self.assertEqual(observer.possible_left(name="b"), [4])

    def test_greatest_products(self):
        observer = PlanObserver(Farm(("a", 5), ("b", 5), ("c", 5), ("d", 4), ("e", 4), ("f", 2)), 2)
        self.assertEqual(observer.pass_days(1), 15)
        observer.pass_days(100)
        self.assertEqual(observer.today, 101)
        self.assertEqual(observer.possible_left("f"), [1, 2])
        self.assertLess(observer.can_last(), observer.pass_days(0))


class HiddenExamplesTest(ObserverTestCase):

    def test_observer(self):
        farm = Farm(("a", 2), ("b", 4), ("c", 4))
        observer = PlanObserver(farm, 1)
        found = [observer.pass_days(1), observer.possible_left("a"), observer.see_left("b", 4), observer.can_last(),
                 observer.records]
        self.assertEqual(found, [3, [1, 2], 1, 1, [(1, "b", 4)]])

    def test_contradiction(self):
        farm = Farm(("a", 2), ("b", 4), ("c", 4))
        with self.assertRaises(Contradiction):
            PlanObserver(farm, 1).see_left("a", 1)


if __name__ == "__main__":
    unittest.main()
