"""Point 40: the cheapest measures, also with the demand that all can be outside by a minute."""

import itertools
import random
import time
import unittest

from allout.choices import cheapest, cheapest_in_time
from allout.errors import HouseError, TooManyMinutes
from allout.minutes import clear_by, out_by
from allout.plans import Plan, values_of
from allout.upgrades import least_upgrade
from chance import some_plan
from crowds import ONE, OUT, everybody, greatest_halls, hall
from houses import FULL, NONE, door, example, space
from lines import code, limit, rule
from test_codes_by_chance import some_codes

AREAS = (1, 10, 5, 30, 20)
WIDE = (
    "rule door width when (atLeast load 1) require (times 9 (quantity load))",
    "rule space width when (kind corridor) require (plus 10 (greatest width doors))",
)
# Far more than is needed, so that only an answer of another order of time is noticed.
SECONDS = 20
CLOSED = limit("0", "(not (installed 0))", "space persons")


def with_measures(*prices, raise_price=1):
    """A room and an outside with a door for each measure."""
    rows = tuple(door(0, 1, number) for number in range(len(prices)))
    return Plan((space(), space(1, "outside")), (door(0, 1),) + rows, prices, (raise_price,) * 3)


def raised(plan, measures, codes):
    word, values, _ = least_upgrade(plan, measures, codes, values_of(plan))
    return values if word == "values" else None


def needs(*costs):
    """Rules that require these widths of the room, by which measures are installed, as ("0 1", width)."""
    found = []
    for installed, width in costs:
        condition = "always"
        for number in range(3):
            part = f"(installed {number})" if str(number) in installed else f"(not (installed {number}))"
            condition = part if condition == "always" else f"(and {condition} {part})"
        found.append(f" except when {condition} require ({width})")
    return rule("nothing" + "".join(found))


class CheapestTest(unittest.TestCase):
    def check(self, plan, codes, measures, price):
        told = cheapest(plan, codes, values_of(plan))
        self.assertIs(type(told), tuple)
        self.assertEqual(told, (measures, raised(plan, measures, codes), price))

    def test_no_measure_needed(self):
        plan = example()
        self.check(plan, code(*WIDE), (), 168)
        self.check(plan, code(), (), 0)

    def test_plan_without_measures(self):
        plan = with_measures()
        self.check(plan, code(rule("7")), (), 7)
        self.assertIsNone(cheapest(plan, code(rule("1001")), values_of(plan)))

    def test_measure_that_makes_the_upgrade_cheaper(self):
        # With the measure 20 units of width are enough instead of 56, at 3 each.
        for price, measures, whole in ((0, (0,), 60), (107, (0,), 167), (108, (), 168), (109, (), 168)):
            old = example()
            plan = Plan(old.spaces, old.doors, (price,), old.prices)
            self.check(plan, code(*WIDE), measures, whole)

    def test_measure_that_costs_more_than_it_saves(self):
        self.check(with_measures(50), code(needs(("", 30), ("0", 0))), (), 30)
        self.check(with_measures(29), code(needs(("", 30), ("0", 0))), (0,), 29)
        self.check(with_measures(29, raise_price=0), code(needs(("", 30), ("0", 0))), (), 0)

    def test_measure_without_which_there_is_no_upgrade(self):
        plan = with_measures(100000)
        self.check(plan, code(CLOSED), (0,), 100000)
        self.check(plan, code(rule("(table (quantity doors) 0 1001)", "(not (atLeast doors 2))")), (0,), 100000)

    def test_every_set_of_measures(self):
        # The price of each set by its raises alone, as the measures cost nothing.
        for best in ((), (0,), (1,), (2,), (0, 1), (0, 2), (1, 2), (0, 1, 2)):
            names = [" ".join(str(number) for number in measures)
                     for many in range(4) for measures in itertools.combinations(range(3), many)]
            least = " ".join(str(number) for number in best)
            codes = code(needs(*((name, 900) for name in names if name != least)).replace("nothing", "3"))
            self.check(with_measures(0, 0, 0), codes, best, 3)

    def test_same_price_with_fewer_measures(self):
        self.check(with_measures(10, 20), code(needs(("", 10), ("0", 0), ("1", 90), ("0 1", 0))), (), 10)
        self.check(with_measures(5, 5, 10), code(needs(("", 90), ("0", 90), ("1", 90), ("2", 0), ("0 1", 0))), (2,), 10)
        self.check(with_measures(0, 0), code(), (), 0)
        self.check(with_measures(0, 0), code(rule("4")), (), 4)

    def test_same_price_and_as_many_measures(self):
        # The first one as tuples are compared.
        self.check(with_measures(5, 5, 5), code(needs(("", 90))), (0,), 5)
        self.check(with_measures(5, 5, 5), code(needs(("", 90), ("0", 90))), (1,), 5)
        self.check(with_measures(9, 5, 5), code(needs(("", 90), ("0", 90))), (1,), 5)
        self.check(with_measures(5, 4, 5), code(needs(("", 90), ("1", 1))), (0,), 5)
        only_two = (("", 90), ("0", 90), ("1", 90), ("2", 90))
        self.check(with_measures(5, 5, 5), code(needs(*only_two)), (0, 1), 10)
        self.check(with_measures(5, 5, 5), code(needs(*only_two, ("0 1", 90))), (0, 2), 10)
        self.check(with_measures(5, 5, 5), code(needs(*only_two, ("0 1", 1), ("0 2", 90))), (1, 2), 10)

    def test_cheaper_goes_ahead_of_fewer(self):
        codes = code(needs(("", 90), ("0", 12), ("1", 11), ("2", 90), ("0 1", 0)))
        self.check(with_measures(5, 5, 5), codes, (0, 1), 10)

    def test_no_upgrade_under_any_set(self):
        for codes in (code(limit("0", about="space persons")), code(rule("1001"))):
            self.assertIsNone(cheapest(with_measures(1, 2, 3), codes, values_of(with_measures(1, 2, 3))))

    def test_one_code_for_each_element(self):
        plan = with_measures(3)
        codes = ((code(rule("5")), code()), (code(), code(rule("7", about="door width"))))
        self.assertEqual(cheapest(plan, codes, values_of(plan)), ((), (((5, 0, 0), NONE), (NONE, NONE)), 5))

    def test_given_values(self):
        plan = with_measures(3)
        values = (((4, 0, 0), NONE), (NONE, NONE))
        expected = ((), (((5, 0, 0), NONE), (NONE, NONE)), 1)
        self.assertEqual(cheapest(plan, code(rule("5")), values), expected)

    def test_arguments_stay_as_they_were(self):
        plan = example()
        before = dict(vars(plan))
        cheapest(plan, code(*WIDE), values_of(plan))
        cheapest_in_time(plan, code(*WIDE), AREAS, values_of(plan), 9)
        self.assertEqual(vars(plan), before)


class InTimeTest(unittest.TestCase):
    def in_time(self, plan, minute, *lines, areas=ONE):
        return cheapest_in_time(plan, code(*lines), areas, values_of(plan), minute)

    def test_example(self):
        plan = example()
        found = [self.in_time(plan, minute, *WIDE, areas=AREAS) for minute in range(8)]
        self.assertEqual(found[:4], [None] * 4)
        measure = ((0,), raised(plan, (0,), code(*WIDE)), 560)
        none = ((), raised(plan, (), code(*WIDE)), 168)
        self.assertEqual(found[4:], [measure, measure, none, none])

    def test_minute_0(self):
        empty = hall(((0, 1), OUT), ((0, 1, 1),))
        self.assertEqual(self.in_time(empty, 0), ((), values_of(empty), 0))
        self.assertIsNone(self.in_time(hall(((1, 1), OUT), ((0, 1, 1),)), 0))

    def test_minute_40(self):
        for many, expected in ((39, True), (40, False)):
            plan = hall(((many, 1), OUT), ((0, 1, 1),))
            self.assertEqual(self.in_time(plan, 40), ((), values_of(plan), 0) if expected else None)

    def test_minute_41_is_refused_ahead_of_all_else(self):
        good = hall(((1, 1), OUT), ((0, 1, 1),))
        for plan, lines in ((good, ()), (good, (rule("1001"),)), (hall((OUT,), ()), ()), (hall(((1, 1),), ()), ())):
            for minute in (41, 77):
                with self.assertRaises(TooManyMinutes) as caught:
                    self.in_time(plan, minute, *lines)
                self.assertEqual(caught.exception.count, minute)
                self.assertIsInstance(caught.exception, HouseError)

    def test_upgrade_that_does_not_let_all_be_outside_in_time(self):
        plan = hall(((10, 1), OUT), ((0, 1, 1, 5), (0, 1, 9, 9, 0)), 1)
        self.assertEqual(self.in_time(plan, 11), ((), values_of(plan), 0))
        self.assertEqual(self.in_time(plan, 10), ((0,), values_of(plan), 0))
        self.assertEqual(self.in_time(plan, 2), ((0,), values_of(plan), 0))
        self.assertIsNone(self.in_time(plan, 1))

    def test_upgrade_alone_counts_and_not_what_else_could_be_raised(self):
        # The door could be five persons wide, but no rule asks for it.
        plan = hall(((10, 1), OUT), ((0, 1, 1, 5),))
        self.assertIsNone(self.in_time(plan, 4))
        found = self.in_time(plan, 4, rule("80", about="door width"))
        self.assertEqual(found[::2], ((), 60))
        self.assertEqual(found[1][1][0], (80, 0, 0))
        self.assertIsNone(self.in_time(plan, 4, rule("79", about="door width")))

    def test_set_in_time_without_an_upgrade(self):
        plan = hall(((10, 1), OUT), ((0, 1, 1), (0, 1, 9, 9, 0)), 1)
        self.assertIsNone(self.in_time(plan, 4, limit("0", "(installed 0)", "space persons")))

    def test_dearer_set_in_time(self):
        spaces = hall(((10, 1), OUT), ()).spaces
        doors = tuple(door(0, 1, number, (width, 0, 0)) for number, width in enumerate((100, 60, 40)))
        plan = Plan(spaces, doors, (30, 20, 10), NONE)
        expected = {2: (0, 1, 2), 3: (0,), 4: (0,), 5: (1,), 6: (2,), 7: (2,)}
        for minute, measures in expected.items():
            found = self.in_time(plan, minute)
            self.assertEqual(found, (measures, values_of(plan), sum(plan.measure_prices[at] for at in measures)))
        self.assertIsNone(self.in_time(plan, 1))

    def test_areas_that_are_given_and_not_those_of_the_code(self):
        plan = hall(((10, 1), OUT), ((0, 1, 1),))
        self.assertIsNone(self.in_time(plan, 10))
        self.assertEqual(self.in_time(plan, 10, areas=(2, 1, 1, 1, 1))[0], ())
        codes = code(areas="areas 1000 1000 1000 1000 1000")
        self.assertIsNone(cheapest_in_time(plan, codes, ONE, values_of(plan), 10))

    def test_space_without_a_way(self):
        plan = hall(((1, 1), (1, 1), OUT), ((0, 2, 1), (1, 2, 1, 1, 0)), 1)
        self.assertEqual(self.in_time(plan, 40)[0], (0,))


class ChanceTest(unittest.TestCase):
    def best(self, plan, codes, areas, minute):
        """The cheapest measures by trying all of them."""
        found = []
        numbers = range(len(plan.measure_prices))
        for measures in (row for many in range(4) for row in itertools.combinations(numbers, many)):
            told = least_upgrade(plan, measures, codes, values_of(plan))
            if told[0] == "obstacle":
                continue
            if minute is not None and clear_by(plan, measures, areas, told[1], minute)[0] == "later":
                continue
            price = told[2] + sum(plan.measure_prices[at] for at in measures)
            found.append((price, len(measures), measures, told[1]))
        return (min(found)[2], min(found)[3], min(found)[0]) if found else None

    def test_many_plans(self):
        source = random.Random(40)
        answers = []
        for _ in range(150):
            plan = some_plan(source)
            plan = Plan(plan.spaces, plan.doors, tuple(source.choice((0, 1, 2, 30)) for _ in range(3)), plan.prices)
            codes, _ = some_codes(source, plan)
            told = cheapest(plan, codes, values_of(plan))
            self.assertEqual(told, self.best(plan, codes, ONE, None))
            answers.append(told and told[0])
        self.assertGreater(len(set(answers)), 4)
        self.assertGreater(answers.count(None), 10)

    def test_many_plans_in_time(self):
        source = random.Random(41)
        answers = []
        for plan in greatest_halls(source):
            prices = tuple(source.choice((0, 1, 2, 30)) for _ in range(3))
            areas = (source.choice((100, 500, 1000)),) * 5
            plan = Plan(plan.spaces, plan.doors, prices, (1, 1, 1))
            codes = code(rule(str(source.choice((0, 60, 400))), about="door width"))
            minute = source.randint(5, 40)
            told = cheapest_in_time(plan, codes, areas, values_of(plan), minute)
            self.assertEqual(told, self.best(plan, codes, areas, minute))
            if told is not None:
                measures, values, _ = told
                self.assertEqual(out_by(plan, measures, areas, values, minute)[0], everybody(plan, areas))
            answers.append(told and told[0])
        self.assertGreater(len(set(answers)), 2)


class GreatestPlansTest(unittest.TestCase):
    def test_answers_come_soon(self):
        begin = time.monotonic()
        for plan in greatest_halls(random.Random(42)):
            codes = code(rule("(larger (greatest width sides) 1000)", about="door width"), rule("(sum width doors)"))
            cheapest(plan, codes, values_of(plan))
            codes = code(rule("60", about="door width"))
            self.assertIsNone(cheapest_in_time(plan, codes, ONE, values_of(plan), 40))
        self.assertLess(time.monotonic() - begin, SECONDS)

    def test_many_rounds_for_each_set(self):
        spaces = (space(1, "room", NONE, FULL),) * 7 + (space(1, "outside"),)
        doors = tuple(door(at, at + 1) for at in range(7)) + tuple(door(0, 1, at % 3) for at in range(5))
        plan = Plan(spaces, doors, (1, 2, 3), (1, 1, 1))
        rules = (rule("(greatest width next)"), rule("(greatest height before)", about="space height"),
                 rule("(own width)", "(atLeast distance 7)", "space height"),
                 rule("(plus 1 (own height))", "(not (atLeast distance 2))"))
        begin = time.monotonic()
        self.assertIsNone(cheapest(plan, code(*rules), values_of(plan)))
        self.assertLess(time.monotonic() - begin, SECONDS)


if __name__ == "__main__":
    unittest.main()
