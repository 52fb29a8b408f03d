import unittest

from harvestcarts.errors import InvalidNumber, UnknownField
from harvestcarts.farms import Farm
from harvestcarts.live import LiveFarm

FARM = Farm(("a", 2), ("b", 3), ("c", 7))
WRONG_NAMES = ["d", "", "A", "ab", "ninechars"]


def state_of(live):
    """All that a live farm tells, to see that nothing of it changes."""
    return (live.now, live.days_left, live.limits_now, live.rotten, live.history)


class LiveTestCase(unittest.TestCase):

    def setUp(self):
        self.live = LiveFarm(FARM)

    def assert_raises_without_changes(self, error, live, call, *args):
        before = state_of(live)
        with self.assertRaises(error) as caught:
            call(*args)
        self.assertEqual(state_of(live), before, args)
        return caught.exception


class MakingLiveFarmsTest(LiveTestCase):

    def test_before_day_0(self):
        self.assertEqual(state_of(self.live), (0, {"a": 2, "b": 3, "c": 7}, {"a": 2, "b": 3, "c": 7}, [], []))

    def test_names_stand_in_the_order_of_the_farm(self):
        live = LiveFarm(Farm(("c", 3), ("a", 2), ("b", 9)))
        live.harvest("b")
        live.change_limit("a", 4)
        live.wait(2)
        live.change_limit("c", 1)
        self.assertEqual(list(live.days_left.items()), [("c", 1), ("a", 4), ("b", 8)])
        self.assertEqual(list(live.limits_now.items()), [("c", 1), ("a", 4), ("b", 9)])

    def test_live_farms_are_of_their_own(self):
        other = LiveFarm(FARM)
        self.live.wait(5)
        self.live.change_limit("a", 9)
        self.assertEqual(state_of(other), state_of(LiveFarm(FARM)))
        self.assertEqual(FARM, Farm(("a", 2), ("b", 3), ("c", 7)))

    def test_what_is_read_is_new_for_each_reading(self):
        self.live.harvest("a")
        self.live.wait(4)
        self.live.change_limit("b", 5)
        before = state_of(self.live)
        self.live.days_left.clear()
        self.live.limits_now["d"] = 3
        self.live.rotten.append((9, "z"))
        self.live.history.clear()
        self.assertEqual(state_of(self.live), before)
        self.live.wait(9)
        self.assertEqual(before, (4, {"a": 1, "b": 2, "c": 3}, {"a": 2, "b": 5, "c": 7}, [(2, "a"), (2, "b")],
                                  [("harvest", "a"), ("wait", 4), ("change_limit", "b", 5)]))

    def test_properties_cannot_be_assigned(self):
        for name in ["now", "days_left", "limits_now", "rotten", "history"]:
            with self.assertRaises(AttributeError):
                setattr(self.live, name, 3)

    def test_keyword_arguments(self):
        live = LiveFarm(farm=FARM)
        self.assertEqual([live.harvest(name="a"), live.wait(days=1), live.change_limit(name="b", limit=9)],
                         [True, [], 3])
        self.assertEqual(live.history, [("harvest", "a"), ("wait", 1), ("change_limit", "b", 9)])


class HarvestTest(LiveTestCase):

    def test_first_harvest_of_a_day(self):
        self.assertIs(self.live.harvest("a"), True)
        self.assertIs(self.live.harvest("a"), False)
        self.assertIs(self.live.harvest("b"), True)
        self.live.wait(1)
        self.assertIs(self.live.harvest("a"), True)
        self.live.wait(0)
        self.assertIs(self.live.harvest("a"), False)

    def test_harvests_count_behind_the_day(self):
        self.live.wait(1)
        self.live.harvest("b")
        self.assertEqual(self.live.days_left, {"a": 1, "b": 2, "c": 6})
        self.live.harvest("a")
        self.assertEqual(self.live.wait(1), [])
        self.assertEqual(self.live.days_left, {"a": 2, "b": 3, "c": 5})

    def test_only_the_first_of_several_days_has_the_harvest(self):
        self.live.harvest("a")
        self.assertEqual(self.live.wait(3), [(2, "a"), (2, "b")])

    def test_all_harvests_are_operations(self):
        self.live.harvest("a")
        self.live.harvest("a")
        self.assertEqual(self.live.history, [("harvest", "a"), ("harvest", "a")])

    def test_unknown_fields(self):
        for name in WRONG_NAMES:
            error = self.assert_raises_without_changes(UnknownField, self.live, self.live.harvest, name)
            self.assertEqual(error.name, name)


class WaitTest(LiveTestCase):

    def test_nothing_rots_if_all_is_harvested_in_time(self):
        live = LiveFarm(Farm(("a", 2), ("b", 3)))
        for name in "aabaab":
            live.harvest(name)
            self.assertEqual(live.wait(1), [])
        self.assertEqual((live.now, live.rotten), (6, []))

    def test_what_has_rotted_is_sown_again(self):
        self.assertEqual(self.live.wait(2), [(1, "a")])
        self.assertEqual(self.live.days_left, {"a": 2, "b": 1, "c": 5})
        self.assertEqual(self.live.wait(6), [(2, "b"), (3, "a"), (5, "a"), (5, "b"), (6, "c"), (7, "a")])
        self.assertEqual(self.live.rotten, [(1, "a"), (2, "b"), (3, "a"), (5, "a"), (5, "b"), (6, "c"), (7, "a")])

    def test_of_one_day_all_rot_in_the_order_of_the_farm(self):
        live = LiveFarm(Farm(("c", 2), ("a", 1), ("b", 2)))
        self.assertEqual(live.wait(2), [(0, "a"), (1, "c"), (1, "a"), (1, "b")])

    def test_a_limit_of_one_day(self):
        live = LiveFarm(Farm(("a", 1)))
        live.harvest("a")
        self.assertEqual(live.wait(1), [])
        self.assertEqual((live.wait(1), live.days_left), ([(1, "a")], {"a": 1}))

    def test_no_days(self):
        self.live.wait(1)
        self.assertEqual(self.live.wait(0), [])
        self.assertEqual((self.live.now, self.live.history), (1, [("wait", 1), ("wait", 0)]))

    def test_days_at_once_and_one_by_one(self):
        other = LiveFarm(FARM)
        found = []
        for _ in range(1000):
            found.extend(other.wait(1))
        self.assertEqual(self.live.wait(1000), found)
        self.assertEqual(state_of(self.live)[:4], state_of(other)[:4])
        self.assertEqual(self.live.now, 1000)
        self.assertEqual(len(found), 500 + 333 + 142)

    def test_returned_lists_are_not_kept(self):
        self.live.wait(3).clear()
        self.assertEqual(self.live.rotten, [(1, "a"), (2, "b")])
        found = self.live.wait(3)
        self.live.wait(9)
        self.assertEqual(found, [(3, "a"), (5, "a"), (5, "b")])

    def test_wrong_numbers(self):
        self.live.wait(1)
        for days in [-1, 1001, 10 ** 18, True, False]:
            self.assert_raises_without_changes(InvalidNumber, self.live, self.live.wait, days)


class ChangeLimitTest(LiveTestCase):

    def test_returns_the_former_limit(self):
        self.assertEqual([self.live.change_limit("a", limit) for limit in (5, 1, 30, 30)], [2, 5, 1, 30])
        self.assertEqual(self.live.limits_now, {"a": 30, "b": 3, "c": 7})

    def test_as_many_days_as_the_limit_are_left_at_most(self):
        self.live.wait(1)
        for limit, left in [(30, 6), (6, 6), (5, 5), (7, 5), (1, 1), (30, 1)]:
            self.live.change_limit("c", limit)
            self.assertEqual(self.live.days_left, {"a": 1, "b": 2, "c": left})

    def test_the_new_limit_is_left_behind_a_harvest(self):
        self.live.harvest("a")
        self.live.change_limit("a", 5)
        self.live.wait(1)
        self.assertEqual(self.live.days_left["a"], 5)
        self.live.harvest("a")
        self.live.change_limit("a", 3)
        self.assertEqual(self.live.days_left["a"], 3)
        self.live.wait(1)
        self.assertEqual(self.live.days_left["a"], 3)

    def test_a_harvest_of_the_day_still_counts(self):
        self.live.harvest("c")
        self.live.change_limit("c", 1)
        self.assertIs(self.live.harvest("c"), False)
        self.assertEqual(self.live.wait(1), [])
        self.assertEqual(self.live.wait(1), [(1, "a"), (1, "c")])

    def test_the_new_limit_is_left_behind_rot(self):
        self.live.change_limit("a", 1)
        self.live.change_limit("a", 4)
        self.assertEqual(self.live.wait(5), [(0, "a"), (2, "b"), (4, "a")])

    def test_the_product_of_the_limits_may_be_large(self):
        live = LiveFarm(Farm.equal(3, "a", "b", "c", "d", "e", "f"))
        for name in "abcdef":
            live.change_limit(name, 30)
        self.assertEqual(live.limits_now, {name: 30 for name in "abcdef"})
        self.assertEqual(live.wait(3), [(2, name) for name in "abcdef"])

    def test_wrong_arguments(self):
        self.live.wait(1)
        for name in WRONG_NAMES:
            for limit in [3, 0, 31]:
                error = self.assert_raises_without_changes(UnknownField, self.live, self.live.change_limit, name,
                                                           limit)
                self.assertEqual(error.name, name)
        for limit in [0, -1, 31, 10 ** 18, True, False]:
            self.assert_raises_without_changes(InvalidNumber, self.live, self.live.change_limit, "a", limit)


class LiveExamplesTest(LiveTestCase):

    def test_harvest(self):
        self.assertEqual([self.live.harvest("a"), self.live.harvest("a"), self.live.wait(2)], [True, False, []])

    def test_wait(self):
        self.assertEqual([self.live.wait(3), self.live.days_left, self.live.now],
                         [[(1, "a"), (2, "b")], {"a": 1, "b": 3, "c": 4}, 3])

    def test_change_limit(self):
        self.assertEqual([self.live.change_limit("c", 3), self.live.days_left["c"]], [7, 3])


if __name__ == "__main__":
    unittest.main()
