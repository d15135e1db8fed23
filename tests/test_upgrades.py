"""Points 34 to 39: the least upgrade, obstacles, prices, and reasons."""

import time
import unittest

from allout.errors import HouseError, TooManyReasons
from allout.judging import is_compliant
from allout.plans import Plan, price_of, values_of
from allout.upgrades import check_reasons, least_upgrade, reasons
from houses import FULL, NONE, door, example, space
from lines import code, limit, rule

WIDE = (
    "rule door width when (atLeast load 1) require (times 9 (quantity load))",
    "rule space width when (kind corridor) require (plus 10 (greatest width doors))",
)
ABOUT_DOORS = "door width"
# Far more than is needed, so that only an answer of another order of time is noticed.
SECONDS = 10
# Space 0 is raised to 3, door 0 behind it, and then both go on in turns.
TURNS = (
    rule("3"),
    rule("(plus 1 (greatest width sides))", about=ABOUT_DOORS),
    rule("(table (greatest width doors) 4 6 7 9)"),
)


def line_of_rooms(many, greatest=FULL, doors_greatest=FULL):
    """Rooms in a line that ends at an outside."""
    spaces = (space(1, "room", NONE, greatest),) * many + (space(1, "outside"),)
    return Plan(spaces, tuple(door(at, at + 1, None, NONE, doors_greatest) for at in range(many)), (0,), (1, 1, 1))


def values_with(plan, changes):
    """The present values of a plan with changes, a dict from (kind, number) to triples."""
    parts = []
    for kind, part in zip(("space", "door"), values_of(plan)):
        parts.append(tuple(changes.get((kind, number), triple) for number, triple in enumerate(part)))
    return tuple(parts)


class UpgradeTest(unittest.TestCase):
    def upgrade(self, plan, *lines, measures=(), values=None):
        return least_upgrade(plan, measures, code(*lines), values_of(plan) if values is None else values)

    def test_example(self):
        expected = (((0, 30, 250), (118, 30, 250), (0, 0, 0)), ((90, 0, 200), (108, 0, 200), (70, 0, 200)))
        self.assertEqual(self.upgrade(example(), *WIDE), ("values", expected, 3 * (10 + 28 + 18)))

    def test_example_with_the_measure(self):
        # The route of the room leads through the new door, so the others have less to do.
        expected = values_with(example(), {("door", 2): (90, 0, 200)})
        found = self.upgrade(example(), *WIDE, measures=(0,))
        self.assertEqual(found, ("values", expected, 3 * 20))

    def test_nothing_to_raise(self):
        plan = example()
        self.assertEqual(self.upgrade(plan), ("values", values_of(plan), 0))
        self.assertEqual(self.upgrade(plan, rule("1", about="door height")), ("values", values_of(plan), 0))

    def test_upgrade_complies_and_its_upgrade_raises_nothing(self):
        plan = line_of_rooms(3)
        codes = code(*TURNS)
        word, values, price = least_upgrade(plan, (), codes, values_of(plan))
        self.assertEqual(word, "values")
        self.assertGreater(price, 0)
        self.assertTrue(is_compliant(plan, (), codes, values))
        self.assertEqual(least_upgrade(plan, (), codes, values), ("values", values, 0))
        self.assertEqual(reasons(plan, (), codes, values), ())

    def test_rounds_that_depend_on_each_other(self):
        plan = line_of_rooms(1)
        found = self.upgrade(plan, *TURNS)
        expected = values_with(plan, {("space", 0): (9, 0, 0), ("door", 0): (10, 0, 0)})
        self.assertEqual(found, ("values", expected, 19))

    def test_no_value_falls(self):
        plan = line_of_rooms(1)
        values = values_with(plan, {("space", 0): (500, 7, 8), ("door", 0): (1, 2, 3)})
        found = self.upgrade(plan, rule("3"), rule("2", about=ABOUT_DOORS), values=values)
        expected = values_with(plan, {("space", 0): (500, 7, 8), ("door", 0): (2, 2, 3)})
        self.assertEqual(found, ("values", expected, 1))

    def test_given_values_and_not_those_of_the_plan(self):
        plan = example()
        values = values_with(plan, {("door", 0): (95, 1, 200), ("door", 1): (120, 0, 200)})
        found = self.upgrade(plan, *WIDE, values=values)
        expected = values_with(plan, {
            ("door", 0): (95, 1, 200), ("door", 1): (120, 0, 200), ("space", 1): (130, 30, 250),
        })
        self.assertEqual(found, ("values", expected, 90))

    def test_elements_that_are_not_present_stay(self):
        plan = example()
        found = self.upgrade(plan, rule("60", about="space rating"), rule("90", about="door rating"))
        expected = (((0, 60, 250), (100, 60, 250), (0, 0, 0)), ((80, 90, 200), (80, 90, 200), (70, 0, 200)))
        self.assertEqual(found, ("values", expected, 5 * (30 + 30 + 90 + 90)))
        found = self.upgrade(plan, rule("90", about="door rating"), measures=(0,))
        self.assertEqual(found[1][1][2], (70, 90, 200))

    def test_price_of_each_attribute(self):
        for at, (name, price) in enumerate((("width", 3), ("rating", 5), ("height", 2))):
            plan = Plan((space(),), (), (), (3, 5, 2))
            found = self.upgrade(plan, rule("7", about=f"space {name}"))
            self.assertEqual(found[2], 7 * price)
            self.assertEqual(found[1][0][0][at], 7)
            self.assertEqual(price_of(plan, values_of(plan), found[1]), found[2])

    def test_values_up_to_the_greatest(self):
        plan = line_of_rooms(1, (7, 8, 9))
        for at, name in enumerate(("width", "rating", "height")):
            word, values, price = self.upgrade(plan, rule(str(7 + at), about=f"space {name}"))
            self.assertEqual((word, values[0][0][at], price), ("values", 7 + at, 7 + at))
            found = self.upgrade(plan, rule(str(8 + at), about=f"space {name}"))
            self.assertEqual(found, ("obstacle", ("value", "space", 0, name)))

    def test_one_code_for_each_element(self):
        plan = line_of_rooms(2)
        of_spaces = (code(rule("4")), code(rule("(plus 1 (greatest width neighbors))")), code(rule("9")))
        of_doors = (code(), code(rule("(sum width sides)", about=ABOUT_DOORS)))
        found = least_upgrade(plan, (), (of_spaces, of_doors), values_of(plan))
        expected = (((4, 0, 0), (5, 0, 0), (0, 0, 0)), ((0, 0, 0), (5, 0, 0)))
        self.assertEqual(found, ("values", expected, 14))

    def test_quantities_and_areas_of_the_codes(self):
        plan = line_of_rooms(1)
        close = code(rule("(quantity persons)"), areas="areas 1 2 1 1 1")
        found = least_upgrade(plan, (), close, values_of(plan))
        self.assertEqual(found[1][0][0], (5, 0, 0))

    def test_many_rounds(self):
        plan = line_of_rooms(7, FULL, (0, 0, 0))
        rules = (rule("(greatest width next)"), rule("(greatest width before)"),
                 rule("(table (greatest width before) 0 1000)", "(atLeast distance 7)"))
        word, values, price = self.upgrade(plan, *rules)
        self.assertEqual((word, price), ("values", 7000))
        self.assertEqual(values[0][:7], ((1000, 0, 0),) * 7)
        found = self.upgrade(line_of_rooms(7), rule("(plus 1 (own width))"))
        self.assertEqual(found, ("obstacle", ("value", "space", 0, "width")))

    def test_as_many_rounds_as_turns_around_a_house(self):
        # A raise by 1 goes through all widths, one in each round, then back through all heights.
        plan = line_of_rooms(7)
        rules = (rule("(greatest width next)"), rule("(greatest height before)", about="space height"),
                 rule("(own width)", "(atLeast distance 7)", "space height"),
                 rule("(plus 1 (own height))", "(not (atLeast distance 2))"))
        begin = time.monotonic()
        found = self.upgrade(plan, *rules)
        self.assertEqual(found, ("obstacle", ("value", "space", 6, "width")))
        self.assertLess(time.monotonic() - begin, SECONDS)
        with self.assertRaises(TooManyReasons):
            reasons(plan, (), code(*rules), values_of(plan))

    def test_arguments_stay_as_they_were(self):
        plan = example()
        before = dict(vars(plan))
        values = values_of(plan)
        self.upgrade(plan, *WIDE, values=values)
        self.assertEqual(vars(plan), before)
        self.assertEqual(values, values_of(example()))


class ObstacleTest(unittest.TestCase):
    def obstacle(self, plan, *lines, measures=(), values=None):
        codes = code(*lines)
        word, found = least_upgrade(plan, measures, codes, values_of(plan) if values is None else values)
        self.assertEqual(word, "obstacle")
        return found

    def test_limit_at_the_first_element(self):
        plan = line_of_rooms(3)
        self.assertEqual(self.obstacle(plan, limit("2", about="space distance")), ("limit", 0, "space", 0))
        self.assertEqual(self.obstacle(plan, limit("1", about="door load")), ("limit", 0, "door", 1))
        self.assertEqual(self.obstacle(plan, limit("2", about="door load")), ("limit", 0, "door", 2))

    def test_first_limit_goes_ahead_of_the_first_element(self):
        plan = line_of_rooms(3)
        lines = (limit("5", about="space distance"), limit("2", about="door load"), limit("0"), limit("0"))
        self.assertEqual(self.obstacle(plan, *lines), ("limit", 1, "door", 2))

    def test_limit_goes_ahead_of_a_value(self):
        plan = line_of_rooms(2, (1, 1, 1))
        too_great = rule("2")
        self.assertEqual(self.obstacle(plan, too_great), ("value", "space", 0, "width"))
        self.assertEqual(self.obstacle(plan, too_great, limit("1", about="door load")), ("limit", 0, "door", 1))

    def test_limits_of_codes_of_their_own(self):
        plan = line_of_rooms(2)
        one = code(limit("9"), limit("0", about="space doors"))
        two = code(limit("0", about="space doors"))
        found = least_upgrade(plan, (), ((one, two, two), (one, one)), values_of(plan))
        self.assertEqual(found, ("obstacle", ("limit", 0, "space", 1)))
        found = least_upgrade(plan, (), ((one, one, two), (two, two)), values_of(plan))
        self.assertEqual(found, ("obstacle", ("limit", 1, "space", 0)))
        # The limit of an outside counts for nobody.
        found = least_upgrade(plan, (), ((code(), code(), two), (one, one)), values_of(plan))
        self.assertEqual(found[0], "values")

    def test_measures_open_a_way(self):
        plan = example()
        line = limit("14", about="space distance")
        self.assertEqual(self.obstacle(plan, line), ("limit", 0, "space", 0))
        self.assertEqual(least_upgrade(plan, (0,), code(line), values_of(plan)), ("values", values_of(plan), 0))

    def test_first_of_several_values(self):
        plan = line_of_rooms(3, (3, 4, 5), (6, 6, 6))
        five = [rule("9", about=about) for about in ("door height", "door width", "space height", "space rating")]
        self.assertEqual(self.obstacle(plan, *five), ("value", "space", 0, "rating"))
        self.assertEqual(self.obstacle(plan, *five[:3]), ("value", "space", 0, "height"))
        self.assertEqual(self.obstacle(plan, *five[:2]), ("value", "door", 0, "width"))
        self.assertEqual(self.obstacle(plan, *five[:1]), ("value", "door", 0, "height"))
        late = rule("9", "(not (atLeast distance 3))", "space rating")
        self.assertEqual(self.obstacle(plan, late), ("value", "space", 1, "rating"))

    def test_the_round_goes_ahead_of_the_element(self):
        # Space 0 becomes too great, too, but only in the second round.
        plan = line_of_rooms(2, (3, 3, 3), (9, 9, 9))
        rules = (rule("(greatest width doors)"), rule("9", about=ABOUT_DOORS))
        self.assertEqual(self.obstacle(plan, *rules), ("value", "space", 0, "width"))
        rules += (rule("4", "(not (atLeast distance 2))", "space height"),)
        self.assertEqual(self.obstacle(plan, *rules), ("value", "space", 1, "height"))

    def test_price_never_matters_for_an_obstacle(self):
        plan = Plan((space(1, "room", NONE, (5, 5, 5)),), (), (), NONE)
        self.assertEqual(self.obstacle(plan, rule("6")), ("value", "space", 0, "width"))

    def test_greatest_values_of_the_plan_count_and_not_given_ones(self):
        plan = line_of_rooms(1, (50, 50, 50))
        values = values_with(plan, {("space", 0): (50, 50, 50)})
        found = least_upgrade(plan, (), code(rule("50")), values)
        self.assertEqual(found, ("values", values, 0))
        self.assertEqual(self.obstacle(plan, rule("51"), values=values), ("value", "space", 0, "width"))


class ReasonsTest(unittest.TestCase):
    def reasons(self, plan, *lines, measures=(), values=None):
        """The reasons, which are checked to lead to the least upgrade if there is one."""
        codes = code(*lines)
        values = values_of(plan) if values is None else values
        found = reasons(plan, measures, codes, values)
        upgrade = least_upgrade(plan, measures, codes, values)
        led = check_reasons(plan, measures, codes, values, found)
        if upgrade[0] == "values":
            self.assertEqual(led, upgrade[1])
        else:
            self.assertIsNotNone(led)
        return found

    def test_example(self):
        expected = (("door", 0, "width", 0, 90), ("door", 1, "width", 0, 108), ("space", 1, "width", 1, 118))
        self.assertEqual(self.reasons(example(), *WIDE), expected)

    def test_no_raises(self):
        self.assertEqual(self.reasons(example()), ())

    def test_order_by_round_by_element_by_attribute(self):
        plan = line_of_rooms(2)
        lines = (
            rule("4", about="door height"), rule("3", about="door width"), rule("2", about="space height"),
            rule("1", about="space rating"), rule("(greatest height doors)", about="space rating"),
        )
        self.assertEqual(self.reasons(plan, *lines), (
            ("space", 0, "rating", 3, 1), ("space", 0, "height", 2, 2),
            ("space", 1, "rating", 3, 1), ("space", 1, "height", 2, 2),
            ("door", 0, "width", 1, 3), ("door", 0, "height", 0, 4),
            ("door", 1, "width", 1, 3), ("door", 1, "height", 0, 4),
            ("space", 0, "rating", 4, 4), ("space", 1, "rating", 4, 4),
        ))

    def test_rounds_that_depend_on_each_other(self):
        self.assertEqual(self.reasons(line_of_rooms(1), *TURNS), (
            ("space", 0, "width", 0, 3), ("door", 0, "width", 1, 1),
            ("door", 0, "width", 1, 4),
            ("space", 0, "width", 2, 6),
            ("door", 0, "width", 1, 7),
            ("space", 0, "width", 2, 9),
            ("door", 0, "width", 1, 10),
        ))

    def test_first_rule_that_requires_exactly_the_value(self):
        plan = Plan((space(),), (), (), NONE)
        self.assertEqual(self.reasons(plan, rule("3"), rule("5"), rule("5"), rule("4")), (("space", 0, "width", 1, 5),))
        lines = (rule("5", about="space height"), rule("5", "(kind stair)"), rule("nothing"), rule("(plus 2 3)"))
        self.assertEqual(self.reasons(plan, *lines)[0], ("space", 0, "width", 3, 5))

    def test_up_to_the_value_that_is_the_obstacle(self):
        plan = line_of_rooms(3, (5, 5, 5))
        lines = (rule("3"), rule("(plus 1 (greatest width next))"), rule("9", about="door height"))
        rows = self.reasons(plan, *lines)
        first = tuple(("space", at, "width", 0, 3) for at in range(3))
        first += tuple(("door", at, "height", 2, 9) for at in range(3))
        second = (("space", 0, "width", 1, 4), ("space", 1, "width", 1, 4))
        # In the third round space 0 becomes 5, which is the greatest value.
        self.assertEqual(rows, first + second + (("space", 0, "width", 1, 5),))
        plan = line_of_rooms(3, (4, 5, 5))
        self.assertEqual(self.reasons(plan, *lines), rows)
        self.assertEqual(least_upgrade(plan, (), code(*lines), values_of(plan)),
                         ("obstacle", ("value", "space", 0, "width")))
        plan = line_of_rooms(3, (3, 5, 5))
        self.assertEqual(self.reasons(plan, *lines), rows[:7])
        plan = line_of_rooms(3, (2, 5, 5))
        self.assertEqual(self.reasons(plan, *lines), rows[:1])

    def test_none_if_a_limit_does_not_hold(self):
        plan = line_of_rooms(2)
        self.assertEqual(self.reasons(plan, rule("5"), limit("0", about="space doors")), ())
        self.assertEqual(self.reasons(plan, rule("(plus 1 (own width))"), limit("0", about="space doors")), ())

    def test_measures(self):
        self.assertEqual(self.reasons(example(), *WIDE, measures=(0,)), (("door", 2, "width", 0, 90),))

    def test_exactly_300_reasons(self):
        for greatest in (298, 299):
            plan = Plan((space(1, "room", NONE, (greatest, 0, 0)),), (), (), NONE)
            rows = self.reasons(plan, rule("(plus 1 (own width))"))
            self.assertEqual(rows, tuple(("space", 0, "width", 0, at + 1) for at in range(greatest + 1)))

    def assert_too_many(self, plan, *lines):
        with self.assertRaises(TooManyReasons) as caught:
            reasons(plan, (), code(*lines), values_of(plan))
        self.assertEqual(caught.exception.count, 301)
        self.assertIsInstance(caught.exception, HouseError)

    def test_301_reasons(self):
        for greatest in (300, 301, 1000):
            plan = Plan((space(1, "room", NONE, (greatest, 0, 0)),), (), (), NONE)
            self.assert_too_many(plan, rule("(plus 1 (own width))"))
            self.assertEqual(least_upgrade(plan, (), code(rule("(plus 1 (own width))")), values_of(plan)),
                             ("obstacle", ("value", "space", 0, "width")))

    def test_299_to_301_reasons_of_an_upgrade(self):
        # Each of these rules raises by 1 up to 100, and no further.
        lines = tuple(rule(f"(plus 1 (share (times 99 (own {name})) 100))", about=f"space {name}")
                      for name in ("width", "rating", "height"))
        for begin, many in (((1, 0, 0), 299), ((0, 0, 0), 300)):
            plan = Plan((space(1, "room", begin),), (), (), NONE)
            self.assertEqual(len(self.reasons(plan, *lines)), many)
            self.assertEqual(least_upgrade(plan, (), code(*lines), values_of(plan))[1][0], ((100, 100, 100),))
        further = rule("(table (own rating) 100 101)")
        self.assert_too_many(plan, *lines, further)
        plan = Plan((space(1, "room", (1, 0, 0)),), (), (), NONE)
        self.assertEqual(len(self.reasons(plan, *lines, further)), 300)

    def great_house(self, at, most):
        """A house of 57 present values, where one space has other greatest values than the rest."""
        greatest = [FULL] * 7
        greatest[at] = most
        spaces = tuple(space(1, "room", NONE, triple) for triple in greatest) + (space(1, "outside"),)
        return Plan(spaces, tuple(door(number % 7, number % 7 + 1) for number in range(12)), (), NONE)

    def test_only_reasons_that_are_told_count(self):
        # All values are raised in each round; in the sixth one a value of a space is too great.
        names = ("width", "rating", "height")
        lines = [rule(f"(plus 1 (own {name}))", about=f"{kind} {name}") for kind in ("space", "door") for name in names]
        for at, name, many in ((0, "width", 286), (4, "rating", 299), (4, "height", 300), (5, "width", 301)):
            most = tuple(5 if name == other else 1000 for other in names)
            plan = self.great_house(at, most)
            if many > 300:
                self.assert_too_many(plan, *lines)
            else:
                found = self.reasons(plan, *lines)
                self.assertEqual((len(found), found[-1]), (many, ("space", at, name, names.index(name), 6)))


class CheckTest(unittest.TestCase):
    ROWS = (("door", 0, "width", 0, 90), ("door", 1, "width", 0, 108), ("space", 1, "width", 1, 118))

    def check(self, rows, measures=(), lines=WIDE, values=None):
        plan = example()
        return check_reasons(plan, measures, code(*lines), values_of(plan) if values is None else values, rows)

    def test_right_reasons(self):
        expected = (((0, 30, 250), (118, 30, 250), (0, 0, 0)), ((90, 0, 200), (108, 0, 200), (70, 0, 200)))
        self.assertEqual(self.check(self.ROWS), expected)

    def test_no_reasons(self):
        self.assertEqual(self.check(()), values_of(example()))
        self.assertEqual(self.check((), lines=()), values_of(example()))

    def test_each_begin_leads_somewhere(self):
        self.assertEqual(self.check(self.ROWS[:1]), values_with(example(), {("door", 0): (90, 0, 200)}))
        expected = values_with(example(), {("door", 0): (90, 0, 200), ("door", 1): (108, 0, 200)})
        self.assertEqual(self.check(self.ROWS[:2]), expected)

    def test_another_order(self):
        first, second, third = self.ROWS
        self.assertEqual(self.check((second, first, third)), self.check(self.ROWS))
        self.assertEqual(self.check((second, third, first)), self.check(self.ROWS))
        self.assertIsNone(self.check((third, first, second)))
        self.assertIsNone(self.check((first, third, second)))

    def test_reason_twice(self):
        for row in self.ROWS:
            self.assertIsNone(self.check(self.ROWS + (row,)))
        self.assertIsNone(self.check((self.ROWS[0], self.ROWS[0])))

    def test_less_than_required_is_right_too(self):
        expected = values_with(example(), {("door", 0): (85, 0, 200)})
        self.assertEqual(self.check((("door", 0, "width", 0, 85),)), expected)
        rows = (("door", 0, "width", 0, 81), ("door", 0, "width", 0, 89), ("door", 0, "width", 0, 90))
        self.assertEqual(self.check(rows), values_with(example(), {("door", 0): (90, 0, 200)}))

    def test_more_than_required_is_not_right(self):
        self.assertIsNone(self.check((("door", 0, "width", 0, 91),)))
        self.assertIsNone(self.check(self.ROWS[:2] + (("space", 1, "width", 1, 119),)))

    def test_value_that_is_no_raise(self):
        for value in (80, 79, 0):
            self.assertIsNone(self.check((("door", 0, "width", 0, value),)))
        self.assertIsNone(self.check((("door", 0, "width", 0, 85), ("door", 0, "width", 0, 82))))

    def test_other_parts(self):
        kind, number, attribute, which, value = self.ROWS[0]
        for row in (
            ("space", number, attribute, which, value), (kind, 2, attribute, which, value),
            (kind, number, "rating", which, value), (kind, number, "height", which, value),
            (kind, number, attribute, 1, value),
        ):
            self.assertIsNone(self.check((row,) + self.ROWS[1:]), row)

    def test_parts_that_do_not_fit(self):
        # The rule requires enough of each element, but of another attribute or of another kind.
        lines = (rule("100", about="door rating"), rule("100", about="space width"))
        self.assertIsNotNone(self.check((("door", 0, "rating", 0, 100),), lines=lines))
        self.assertIsNotNone(self.check((("space", 0, "width", 1, 100),), lines=lines))
        for row in (("door", 0, "width", 0, 100), ("door", 0, "rating", 1, 100), ("space", 0, "width", 0, 100),
                    ("space", 0, "rating", 0, 100), ("door", 0, "width", 1, 100), ("space", 0, "rating", 1, 100)):
            self.assertIsNone(self.check((row,), lines=lines), row)

    def test_elements_that_the_plan_does_not_have(self):
        lines = (rule("500"), rule("500", about="door width"))
        for kind, number in (("space", 3), ("space", -1), ("door", 3), ("door", -1), ("door", 100), ("house", 0)):
            for which in (0, 1):
                self.assertIsNone(self.check(((kind, number, "width", which, 200),), lines=lines), (kind, number))
        self.assertIsNotNone(self.check((("space", 0, "width", 0, 200),), lines=lines))

    def test_elements_that_are_not_present(self):
        lines = (rule("500"), rule("500", about="door width"))
        self.assertIsNone(self.check((("space", 2, "width", 0, 200),), lines=lines))
        self.assertIsNone(self.check((("door", 2, "width", 1, 200),), lines=lines))
        expected = values_with(example(), {("door", 2): (200, 0, 200)})
        self.assertEqual(self.check((("door", 2, "width", 1, 200),), (0,), lines), expected)

    def test_rules_that_are_not_there(self):
        for which in (2, 5, 6, 100, -1, -2):
            self.assertIsNone(self.check((("door", 0, "width", which, 90),)), which)
        # A limit is no rule.
        self.assertIsNone(self.check((("space", 0, "width", 0, 5),), lines=(limit("9"),)))

    def test_rules_that_require_nothing(self):
        for line in (rule("nothing"), rule("100", "(kind stair)"), rule("100 except when always require (nothing)")):
            self.assertIsNone(self.check((("space", 0, "width", 0, 5),), lines=(line,)))

    def test_greatest_values_play_no_role(self):
        lines = (rule("(times 10 100000)"),)
        expected = values_with(example(), {("space", 0): (1000000, 30, 250)})
        self.assertEqual(self.check((("space", 0, "width", 0, 1000000),), lines=lines), expected)
        self.assertIsNone(self.check((("space", 0, "width", 0, 1000001),), lines=lines))

    def test_limits_play_no_role(self):
        self.assertIsNotNone(self.check(self.ROWS, lines=WIDE + (limit("0", about="space doors"),)))

    def test_given_values_count(self):
        values = values_with(example(), {("door", 0): (89, 0, 200), ("space", 1): (110, 30, 250)})
        self.assertIsNotNone(self.check(self.ROWS, values=values))
        values = values_with(example(), {("door", 0): (90, 0, 200)})
        self.assertIsNone(self.check(self.ROWS, values=values))
        self.assertIsNotNone(self.check(self.ROWS[1:], values=values))

    def test_rule_of_the_code_of_the_element(self):
        plan = line_of_rooms(2)
        codes = ((code(), code(rule("1"), rule("7")), code(rule("9"))), (code(), code(rule("8", about=ABOUT_DOORS))))
        values = values_of(plan)
        rows = (("space", 1, "width", 1, 7), ("door", 1, "width", 0, 8))
        expected = (((0, 0, 0), (7, 0, 0), (0, 0, 0)), ((0, 0, 0), (8, 0, 0)))
        self.assertEqual(check_reasons(plan, (), codes, values, rows), expected)
        for row in (("space", 0, "width", 0, 1), ("space", 1, "width", 0, 7), ("door", 0, "width", 0, 8),
                    ("space", 2, "width", 0, 9), ("door", 1, "width", 1, 8)):
            self.assertIsNone(check_reasons(plan, (), codes, values, (row,)), row)

    def test_more_than_300_reasons_are_checked(self):
        plan = line_of_rooms(1)
        rows = tuple(("space", 0, "width", 0, at + 1) for at in range(2000))
        found = check_reasons(plan, (), code(rule("(plus 1 (own width))")), values_of(plan), rows)
        self.assertEqual(found[0][0], (2000, 0, 0))


if __name__ == "__main__":
    unittest.main()
