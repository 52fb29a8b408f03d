import unittest
from itertools import product

from harvestcarts.errors import InvalidNumber, InvalidPlan, InvalidText, UnknownField
from harvestcarts.farms import Farm
from harvestcarts.plans import Plan, first_rot
from harvestcarts.texts import chart, format_plan, parse_plan

PLANS = [Plan(()), Plan(("a",)), Plan((), (), lead=1), Plan(("b", "a"), (), ("eightchr", "c"), lead=2),
         Plan(*[("a",)] * 5000, lead=4999), Plan(*[()] * 11, lead=10)]


class TextsTestCase(unittest.TestCase):

    def assert_wrong_word(self, text, row, word):
        with self.assertRaises(InvalidText) as caught:
            parse_plan(text)
        self.assertEqual((caught.exception.row, caught.exception.word), (row, word), text)

    def assert_wrong_plan(self, text, index):
        with self.assertRaises(InvalidPlan) as caught:
            parse_plan(text)
        self.assertEqual(caught.exception.index, index, text)


class FormatPlanTest(TextsTestCase):

    def test_texts(self):
        self.assertEqual(format_plan(Plan(("a",))), "lead 0\na")
        self.assertEqual(format_plan(Plan(())), "lead 0\n-")
        self.assertEqual(format_plan(Plan(("c", "a", "b"), ("wheat",), (), ("a",), lead=3)),
                         "lead 3\nc a b\nwheat\n-\na")
        self.assertEqual(format_plan(Plan(*[()] * 5000, lead=4999)), "lead 4999" + "\n-" * 5000)

    def test_texts_can_be_parsed(self):
        for plan in PLANS:
            self.assertEqual(parse_plan(format_plan(plan)), plan)
            self.assertEqual(format_plan(parse_plan(format_plan(plan))), format_plan(plan))


class ParsePlanTest(TextsTestCase):

    def test_all_short_plans(self):
        days = [(), ("a",), ("b", "a"), ("a", "b", "eightchr")]
        for chosen in product(days, repeat=3):
            for lead in range(3):
                rows = [" ".join(names) if names else "-" for names in chosen]
                self.assertEqual(parse_plan("\n".join([f"lead {lead}", *rows])), Plan(*chosen, lead=lead))

    def test_leads(self):
        for lead in [0, 1, 9, 10, 99, 100, 999, 1000, 4999]:
            self.assertEqual(parse_plan(f"lead {lead}" + "\n-" * 5000).lead, lead)

    def test_first_word(self):
        for text in ["", "leads 0", "Lead 0", "lea", "0 lead", " lead 0", "lead\t0", " ", "-", "\n", "\nlead 0",
                     "lead0", "leads", " lead x y"]:
            self.assert_wrong_word(text + "\na", 0, 0)

    def test_second_word(self):
        for word in ["", "x", "-1", "+1", "00", "01", "0001", "10000", "00000", "1.0", "0x1", "1_0", "\u0661",
                     "\u00b2", "0\r", "0\t", "-", "12345", "1a"]:
            self.assert_wrong_word(f"lead {word}\na", 0, 1)
            self.assert_wrong_word(f"lead {word} 0\n7", 0, 1)
        self.assert_wrong_word("lead\na", 0, 1)
        self.assert_wrong_word("lead", 0, 1)
        self.assert_wrong_word("lead  0\na", 0, 1)

    def test_third_word(self):
        for text in ["lead 0 0", "lead 0 ", "lead 0  ", "lead 0 a b", "lead 9999 -", "lead 0 lead"]:
            self.assert_wrong_word(text, 0, 2)
            self.assert_wrong_word(text + "\n7", 0, 2)

    def test_words_of_days(self):
        wrong = ["", "A", "a1", "7", "ninechars", "--", "\u00e4", "a\r", "a\t", "a.", "-a"]
        for word in wrong:
            self.assert_wrong_word(f"lead 0\n{word}", 1, 0)
            self.assert_wrong_word(f"lead 0\na\n{word}\n7", 2, 0)
            self.assert_wrong_word(f"lead 0\na b {word}", 1, 2)
            self.assert_wrong_word(f"lead 0\na {word} 7", 1, 1)

    def test_a_row_is_a_hyphen_only_alone(self):
        self.assert_wrong_word("lead 0\n- a", 1, 0)
        self.assert_wrong_word("lead 0\na -", 1, 1)
        self.assert_wrong_word("lead 0\n- -", 1, 0)
        self.assert_wrong_word("lead 0\n- ", 1, 0)
        self.assert_wrong_word("lead 0\n -", 1, 0)

    def test_spaces(self):
        self.assert_wrong_word("lead 0\n a", 1, 0)
        self.assert_wrong_word("lead 0\na ", 1, 1)
        self.assert_wrong_word("lead 0\na  b", 1, 1)
        self.assert_wrong_word("lead 0\na b  ", 1, 2)
        self.assert_wrong_word("lead 0\n ", 1, 0)

    def test_line_feeds(self):
        self.assert_wrong_word("lead 0\n", 1, 0)
        self.assert_wrong_word("lead 0\na\n", 2, 0)
        self.assert_wrong_word("lead 0\n\na", 1, 0)
        self.assert_wrong_word("lead 0\r\na", 0, 1)
        self.assert_wrong_word("lead 0\na\r\nb", 1, 0)
        self.assert_wrong_word("lead 0\na\u2028b", 1, 0)

    def test_invalid_plans(self):
        self.assert_wrong_plan("lead 0", 0)
        self.assert_wrong_plan("lead 9999", 0)
        self.assert_wrong_plan("lead 1\na", 1)
        self.assert_wrong_plan("lead 9999\na\n-", 2)
        self.assert_wrong_plan("lead 5\na\nb c b", 1)
        self.assert_wrong_plan("lead 0" + "\n-" * 5001, 5000)
        self.assert_wrong_plan("lead 5000" + "\n-" * 5000, 5000)

    def test_wrong_words_come_before_invalid_plans(self):
        self.assert_wrong_word("lead 9\na a\n7", 2, 0)
        self.assert_wrong_word("lead 0" + "\n-" * 5001 + "\n7", 5002, 0)


class ChartTest(TextsTestCase):

    def test_names_and_counts(self):
        farm = Farm(("a", 1), ("eightchr", 30), ("wheat", 30))
        plan = Plan(("a",), ("wheat", "a"))
        self.assertEqual(chart(farm, plan, 12), "\n".join(["a       ############   12", "eightchr............    0",
                                                           "wheat   .#.#.#.#.#.#    6"]))
        self.assertEqual(chart(farm, plan, 1), "a       #    1\neightchr.    0\nwheat   .    0")

    def test_only_what_first_rot_tells_is_marked(self):
        farm = Farm(("c", 3), ("a", 2), ("b", 2))
        plan = Plan(())
        self.assertEqual(chart(farm, plan, 6), "c       ......    0\na       .!....    0\nb       ......    0")
        self.assertEqual(chart(farm, plan, 1), "c       .    0\na       .    0\nb       .    0")
        self.assertEqual(chart(farm, plan, 2), "c       ..    0\na       .!    0\nb       ..    0")

    def test_rot_behind_the_first_days_is_not_marked(self):
        farm = Farm(("a", 30))
        plan = Plan(("a",), *[()] * 40)
        self.assertEqual(first_rot(farm, plan), (30, "a"))
        self.assertEqual(chart(farm, plan, 30), "a       #" + "." * 29 + "    1")
        self.assertEqual(chart(farm, plan, 31), "a       #" + "." * 29 + "!    1")
        self.assertEqual(chart(farm, plan, 60), "a       #" + "." * 29 + "!" + "." * 10 + "#" + "." * 18 + "    2")

    def test_the_lead(self):
        farm = Farm(("a", 3), ("b", 9))
        plan = Plan(("b",), ("a",), ("a",), (), lead=2)
        self.assertEqual(chart(farm, plan, 8), "a       .##.#.#.    4\nb       #.......    1")
        self.assertEqual(chart(farm, plan, 60).count("!"), 1)

    def test_numbers_of_days(self):
        farm = Farm(("a", 1))
        self.assertEqual(chart(farm, Plan(("a",)), 60), "a       " + "#" * 60 + "   60")
        for days in [0, -1, 61, 10 ** 18, True, False]:
            with self.assertRaises(InvalidNumber):
                chart(farm, Plan(("a",)), days)

    def test_unknown_fields(self):
        farm = Farm(("a", 1))
        for plan, name in [(Plan(("b",)), "b"), (Plan(("a",), ("c", "b"), ("d",)), "c"), (Plan((), ("a", "d")), "d")]:
            for days in [1, 60, 0, 61]:
                with self.assertRaises(UnknownField) as caught:
                    chart(farm, plan, days)
                self.assertEqual(caught.exception.name, name)

    def test_repeated_calls(self):
        farm = Farm(("a", 2), ("b", 3))
        self.assertEqual(chart(farm, Plan(("a", "b")), 9), chart(farm, Plan(("a", "b")), 9))


class TextsExamplesTest(TextsTestCase):

    def test_format_plan(self):
        self.assertEqual(format_plan(Plan(("a",), ("b", "a"), (), lead=1)), "lead 1\na\nb a\n-")

    def test_parse_plan(self):
        self.assertEqual(parse_plan("lead 1\na\nb a\n-").days, (("a",), ("b", "a"), ()))
        self.assert_wrong_word("lead 0\na 7", 1, 1)

    def test_chart(self):
        plan = Plan(("a",), ("a",), ("b",), ("a",), lead=1)
        self.assertEqual(chart(Farm(("a", 2), ("b", 3)), plan, 7),
                         "a       ##.##.#    5\nb       ..#..#.    2")


if __name__ == "__main__":
    unittest.main()
