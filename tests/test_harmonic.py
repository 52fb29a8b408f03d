import unittest
from itertools import permutations, product

from harvestcarts.errors import InvalidNumber, NotHarmonic, TooFewCarts
from harvestcarts.farms import Farm, least_carts
from harvestcarts.harmonic import Rule, is_harmonic
from harvestcarts.plans import Plan, first_rot

FAR = 10 ** 18
HARMONIC_LIMITS = ([(one,) for one in (1, 2, 29, 30)]
                   + list(product((1, 2, 4, 8), repeat=3))
                   + list(product((1, 3, 6), repeat=4))
                   + [(5, 5, 5, 5, 5), (2, 4, 8, 8), (3, 3, 6, 12), (1, 1, 1, 1, 1, 1), (4, 4, 4, 4, 2, 2),
                      (30, 10, 5, 1), (28, 7, 14), (6, 2, 6, 6), (12, 4, 2, 12, 1)])


def harmonic_farms():
    return [Farm(*zip("fbdace", limits)) for limits in HARMONIC_LIMITS]


class IsHarmonicTest(unittest.TestCase):

    def test_ascending_limits(self):
        self.assertIs(is_harmonic(Farm(("a", 2), ("b", 4), ("c", 8))), True)
        self.assertIs(is_harmonic(Farm(("a", 2), ("b", 3), ("c", 6))), False)
        self.assertIs(is_harmonic(Farm(("a", 2), ("b", 4), ("c", 6))), False)

    def test_mixed_order(self):
        for limits in permutations((1, 3, 6, 30)):
            self.assertIs(is_harmonic(Farm(*zip("abcd", limits))), True, limits)
        for limits in permutations((2, 3, 12)):
            self.assertIs(is_harmonic(Farm(*zip("abc", limits))), False, limits)

    def test_equal_limits(self):
        self.assertIs(is_harmonic(Farm.equal(7, "a", "b", "c")), True)
        self.assertIs(is_harmonic(Farm(("a", 4), ("b", 2), ("c", 4), ("d", 2))), True)
        self.assertIs(is_harmonic(Farm(("a", 3), ("b", 2), ("c", 3), ("d", 2))), False)

    def test_one_field(self):
        for limit in (1, 17, 30):
            self.assertIs(is_harmonic(Farm(("a", limit))), True)

    def test_limit_1_divides_all(self):
        self.assertIs(is_harmonic(Farm(("a", 29), ("b", 1))), True)
        self.assertIs(is_harmonic(Farm(("a", 29), ("b", 1), ("c", 28))), False)

    def test_against_all_pairs(self):
        for limits in product(range(1, 13), repeat=3):
            divides = all(max(one, other) % min(one, other) == 0 for one, other in product(limits, repeat=2))
            self.assertIs(is_harmonic(Farm(*zip("abc", limits))), divides, limits)


class RuleTest(unittest.TestCase):

    def assert_rule(self, farm, carts):
        rule = Rule(farm, carts)
        last = max(farm.limits)
        harvested = {}
        for name, limit in farm.fields:
            cart, rest = rule[name]
            self.assertIn(cart, range(carts))
            self.assertIn(rest, range(limit))
            for day in range(rest, 2 * last, limit):
                self.assertNotIn((day, cart), harvested, (farm.fields, carts))
                harvested[day, cart] = name
        for day in range(2 * last):
            names = tuple(harvested[day, cart] for cart in range(carts) if (day, cart) in harvested)
            self.assertEqual(rule(day), names, (farm.fields, carts, day))
        return rule

    def test_all_harmonic_farms(self):
        for farm in harmonic_farms():
            for carts in range(least_carts(farm), 7):
                self.assert_rule(farm, carts)

    def test_nothing_ever_rots(self):
        for farm in harmonic_farms():
            rule = Rule(farm, least_carts(farm))
            self.assertIsNone(first_rot(farm, Plan(*[rule(day) for day in range(max(farm.limits))])))

    def test_shares_that_are_the_number_of_carts(self):
        self.assertEqual(Farm(("a", 2), ("b", 4), ("c", 4)).share, (1, 1))
        self.assert_rule(Farm(("a", 2), ("b", 4), ("c", 4)), 1)
        self.assert_rule(Farm(("c", 4), ("a", 2), ("b", 4)), 1)
        farm = Farm(("a", 8), ("b", 2), ("c", 4), ("d", 1), ("e", 8))
        self.assertEqual(farm.share, (2, 1))
        self.assert_rule(farm, 2)

    def test_names_by_the_numbers_of_their_carts(self):
        farm = Farm(*[(name, 1) for name in "fbdace"])
        rule = self.assert_rule(farm, 6)
        self.assertEqual(sorted(rule(5)), list("abcdef"))
        self.assertEqual([rule[name][0] for name in rule(5)], [0, 1, 2, 3, 4, 5])

    def test_days_on_which_nothing_is_harvested(self):
        rule = self.assert_rule(Farm(("a", 30)), 1)
        rest = rule["a"][1]
        self.assertEqual([day for day in range(90) if rule(day) == ("a",)], [rest, rest + 30, rest + 60])
        self.assertEqual(rule(rest + 1), ())

    def test_unknown_fields(self):
        rule = Rule(Farm(("a", 2), ("b", 4)), 1)
        for name in ["c", "", "A", "ab", "a "]:
            self.assertIsNone(rule[name])
        self.assertIsInstance(rule["a"], tuple)

    def test_rules_cannot_be_iterated_over(self):
        rule = Rule(Farm(("a", 2), ("b", 4)), 1)
        for call in [iter, list, tuple, sorted, lambda rule: [name for name in rule]]:
            with self.assertRaises(TypeError):
                call(rule)

    def test_repeated_calls(self):
        farm = Farm(("a", 2), ("b", 4), ("c", 4))
        rule = Rule(farm, 1)
        for _ in range(2):
            self.assertEqual([rule(day) for day in range(9)], [Rule(farm, 1)(day) for day in range(9)])
            self.assertEqual(rule.count("a", 11), rule.count("a", 11))
        self.assertEqual(farm, Farm(("a", 2), ("b", 4), ("c", 4)))


class DaysOfRulesTest(unittest.TestCase):

    def setUp(self):
        self.farm = Farm(("b", 30), ("a", 2), ("c", 10))
        self.rule = Rule(self.farm, 1)

    def test_far_days(self):
        for rule, farm in [(self.rule, self.farm), (Rule(Farm(("a", 7), ("b", 7)), 2), Farm(("a", 7), ("b", 7)))]:
            for day in [FAR, FAR - 1, FAR - 2, FAR - 29, FAR - 30, FAR // 2]:
                names = [name for name, limit in farm.fields if day % limit == rule[name][1]]
                self.assertEqual(sorted(rule(day)), sorted(names))

    def test_days_out_of_range(self):
        for day in [-1, -FAR, FAR + 1, True, False]:
            with self.assertRaises(InvalidNumber):
                self.rule(day)
            for name in self.farm.names:
                with self.assertRaises(InvalidNumber):
                    self.rule.count(name, day)

    def test_keyword_arguments(self):
        rule = Rule(farm=self.farm, carts=1)
        self.assertEqual(rule.count(name="a", days=8), 4)
        self.assertIs(is_harmonic(farm=self.farm), True)

    def test_first_and_last_day(self):
        self.assertIsInstance(self.rule(0), tuple)
        self.assertIsInstance(self.rule(FAR), tuple)

    def test_count_of_small_numbers_of_days(self):
        for farm in harmonic_farms():
            rule = Rule(farm, least_carts(farm))
            for name in farm.names:
                found = 0
                for days in range(65):
                    self.assertEqual(rule.count(name, days), found, (farm.fields, name, days))
                    found += name in rule(days)

    def test_count_of_no_days(self):
        for name in self.farm.names:
            self.assertEqual(self.rule.count(name, 0), 0)

    def test_count_of_far_days(self):
        for name, limit in self.farm.fields:
            for days in [FAR, FAR - 1, FAR - 17]:
                # A turn of 30 days has 30 // limit harvests, and the rest is small.
                turns, more = divmod(days, 30)
                expected = turns * (30 // limit) + self.rule.count(name, more)
                self.assertEqual(self.rule.count(name, days), expected)
        self.assertEqual(self.rule.count("c", FAR), FAR // 10)


class ErrorsOfRulesTest(unittest.TestCase):

    def test_numbers_of_carts(self):
        for carts in [0, 7, -1, FAR, True, False]:
            with self.assertRaises(InvalidNumber):
                Rule(Farm(("a", 2)), carts)
        for carts in range(1, 7):
            self.assertEqual(Rule(Farm(("a", 2)), carts)["a"][1] in (0, 1), True)

    def test_not_harmonic(self):
        for carts in range(1, 7):
            with self.assertRaises(NotHarmonic):
                Rule(Farm(("a", 2), ("b", 3)), carts)

    def test_too_few_carts(self):
        farm = Farm(("a", 2), ("b", 2), ("c", 30))
        with self.assertRaises(TooFewCarts):
            Rule(farm, 1)
        self.assertIsNotNone(Rule(farm, 2)["c"])
        with self.assertRaises(TooFewCarts):
            Rule(Farm(*[(name, 1) for name in "abcdef"]), 5)

    def test_number_comes_before_not_harmonic(self):
        for carts in [0, 7, True]:
            with self.assertRaises(InvalidNumber):
                Rule(Farm(("a", 2), ("b", 3)), carts)

    def test_not_harmonic_comes_before_too_few_carts(self):
        farm = Farm(("a", 2), ("b", 3), ("c", 2))
        self.assertEqual(least_carts(farm), 2)
        with self.assertRaises(NotHarmonic):
            Rule(farm, 1)

    def test_number_comes_before_too_few_carts(self):
        with self.assertRaises(InvalidNumber):
            Rule(Farm(("a", 1), ("b", 1)), 0)


class HarmonicExamplesTest(unittest.TestCase):

    def test_rule(self):
        farm = Farm(("a", 2), ("b", 4), ("c", 4))
        rule = Rule(farm, 1)
        found = [is_harmonic(farm), rule["d"], rule.count("a", 10 ** 18), len(rule(10 ** 18))]
        self.assertEqual(found, [True, None, 500000000000000000, 1])

    def test_not_harmonic(self):
        with self.assertRaises(NotHarmonic):
            Rule(Farm(("a", 2), ("b", 3), ("c", 7)), 2)


if __name__ == "__main__":
    unittest.main()
