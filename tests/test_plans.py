"""Points 3 to 9 and the price of point 37: plans."""

import unittest

from allout.errors import BadPlan, NoSuchElement
from allout.plans import Plan, check_element, open_doors, present, price_of, values_of
from houses import CORRIDOR, FULL, INNER, NONE, ROOM, door, example, house, space

KINDS = ("room", "corridor", "stair", "outside")
USES = ("assembly", "office", "shop", "storage", "home")
GOOD_SPACE = ("room", "office", 10, 10, 0, NONE, FULL)
GOOD_DOOR = (0, 1, None, NONE, FULL)


def with_item(row, at, item):
    return row[:at] + (item,) + row[at + 1:]


def plan_of_space(row):
    return Plan((row, space()), (), (), NONE)


def plan_of_door(row, spaces=3, measures=2):
    return Plan((space(),) * spaces, (row,), (0,) * measures, NONE)


class PlanCase(unittest.TestCase):
    def assert_taken(self, make, *arguments):
        self.assertIsInstance(make(*arguments), Plan, arguments)

    def assert_refused(self, make, *arguments):
        with self.assertRaises(BadPlan, msg=arguments):
            make(*arguments)


class SpacesTest(PlanCase):
    def test_kinds_and_uses(self):
        for kind in KINDS:
            self.assert_taken(plan_of_space, with_item(GOOD_SPACE, 0, kind))
        for use in USES:
            self.assert_taken(plan_of_space, with_item(GOOD_SPACE, 1, use))

    def test_unknown_kinds_and_uses(self):
        for kind in ("", "Room", "rooms", "office", "door", "space"):
            self.assert_refused(plan_of_space, with_item(GOOD_SPACE, 0, kind))
        for use in ("", "Office", "offices", "room", "school"):
            self.assert_refused(plan_of_space, with_item(GOOD_SPACE, 1, use))

    def test_numbers_at_their_bounds(self):
        for at, least, most in ((2, 0, 100000), (3, 1, 1000), (4, 0, 50)):
            for number in (least, least + 1, most - 1, most):
                self.assert_taken(plan_of_space, with_item(GOOD_SPACE, at, number))
            for number in (least - 1, most + 1):
                self.assert_refused(plan_of_space, with_item(GOOD_SPACE, at, number))

    def test_wrong_shapes(self):
        for row in (GOOD_SPACE[:6], GOOD_SPACE + (0,), ()):
            self.assert_refused(plan_of_space, row)

    def test_rules_hold_for_outsides_and_for_the_last_space_too(self):
        outside = with_item(GOOD_SPACE, 0, "outside")
        self.assert_refused(plan_of_space, with_item(outside, 3, 0))
        self.assert_refused(plan_of_space, with_item(outside, 5, (1001, 0, 0)))
        last = with_item(GOOD_SPACE, 2, -1)
        self.assert_refused(Plan, (space(), space(), last), (), (), NONE)


class ValuesTest(PlanCase):
    def each_triple(self, number):
        for at in range(3):
            yield with_item(NONE, at, number)

    def each_place(self):
        """The functions that make a plan of two triples, of a space and of a door."""
        yield lambda values, greatest: plan_of_space(GOOD_SPACE[:5] + (values, greatest))
        yield lambda values, greatest: plan_of_door(GOOD_DOOR[:3] + (values, greatest))

    def test_values_at_their_bounds(self):
        for make in self.each_place():
            for number in (0, 1, 999, 1000):
                for triple in self.each_triple(number):
                    self.assert_taken(make, triple, triple)
                    self.assert_taken(make, NONE, triple)
                    self.assert_taken(make, triple, FULL)

    def test_values_beyond_their_bounds(self):
        for make in self.each_place():
            for triple in self.each_triple(-1):
                self.assert_refused(make, triple, FULL)
                self.assert_refused(make, triple, triple)
            for triple in self.each_triple(1001):
                self.assert_refused(make, NONE, triple)
                self.assert_refused(make, triple, triple)

    def test_value_above_its_greatest_one(self):
        for make in self.each_place():
            for at in range(3):
                greatest = (70, 80, 90)
                self.assert_taken(make, greatest, greatest)
                self.assert_refused(make, with_item(greatest, at, greatest[at] + 1), greatest)

    def test_greatest_values_are_compared_at_their_places(self):
        for make in self.each_place():
            self.assert_taken(make, (1, 2, 3), (1, 2, 3))
            self.assert_refused(make, (1, 2, 3), (3, 2, 1))

    def test_triples_of_another_length(self):
        for make in self.each_place():
            self.assert_refused(make, (0, 0), FULL)
            self.assert_refused(make, (0, 0, 0, 0), FULL)
            self.assert_refused(make, NONE, (1000, 1000))
            self.assert_refused(make, NONE, (1000, 1000, 1000, 1000))


class DoorsTest(PlanCase):
    def test_doors_between_any_two_spaces(self):
        for one in range(3):
            for two in range(3):
                check = self.assert_refused if one == two else self.assert_taken
                check(plan_of_door, (one, two) + GOOD_DOOR[2:])

    def test_doors_to_spaces_that_the_plan_does_not_have(self):
        for number in (-1, 3, 8):
            self.assert_refused(plan_of_door, (0, number) + GOOD_DOOR[2:])
            self.assert_refused(plan_of_door, (number, 0) + GOOD_DOOR[2:])

    def test_door_of_a_plan_with_one_space(self):
        self.assert_refused(plan_of_door, GOOD_DOOR, 1)

    def test_measures_of_doors(self):
        for measure in (None, 0, 1):
            self.assert_taken(plan_of_door, with_item(GOOD_DOOR, 2, measure))
        for measure in (-1, 2):
            self.assert_refused(plan_of_door, with_item(GOOD_DOOR, 2, measure))
        self.assert_refused(plan_of_door, with_item(GOOD_DOOR, 2, 0), 3, 0)

    def test_doors_between_the_same_spaces_and_between_outsides(self):
        outside = space(1, "outside")
        doors = (door(0, 1), door(0, 1), door(1, 0))
        self.assert_taken(Plan, (outside, outside), doors, (), NONE)

    def test_wrong_shapes(self):
        for row in (GOOD_DOOR[:4], GOOD_DOOR + (0,), ()):
            self.assert_refused(plan_of_door, row)

    def test_rules_hold_for_the_last_door_too(self):
        self.assert_refused(Plan, (space(), space()), (door(0, 1), door(1, 0), door(1, 1)), (), NONE)


class SizesTest(PlanCase):
    def test_how_many_spaces(self):
        for many in range(1, 9):
            self.assert_taken(Plan, (space(),) * many, (), (), NONE)
        for many in (0, 9, 10):
            self.assert_refused(Plan, (space(),) * many, (), (), NONE)

    def test_how_many_doors(self):
        for many in range(13):
            self.assert_taken(Plan, (space(),) * 2, (GOOD_DOOR,) * many, (), NONE)
        for many in (13, 14):
            self.assert_refused(Plan, (space(),) * 2, (GOOD_DOOR,) * many, (), NONE)

    def test_how_many_measures(self):
        for many in range(4):
            self.assert_taken(Plan, (space(),), (), (5,) * many, NONE)
        for many in (4, 5):
            self.assert_refused(Plan, (space(),), (), (5,) * many, NONE)

    def test_prices_of_measures(self):
        for price in (0, 1, 99999, 100000):
            self.assert_taken(Plan, (space(),), (), (5, price), NONE)
        for price in (-1, 100001):
            self.assert_refused(Plan, (space(),), (), (5, price), NONE)

    def test_prices_of_units(self):
        for at in range(3):
            for price in (0, 1, 999, 1000):
                self.assert_taken(Plan, (space(),), (), (), with_item(NONE, at, price))
            for price in (-1, 1001):
                self.assert_refused(Plan, (space(),), (), (), with_item(NONE, at, price))
        for prices in ((), (0, 0), (0, 0, 0, 0)):
            self.assert_refused(Plan, (space(),), (), (), prices)

    def test_greatest_plan_with_its_fields(self):
        spaces = tuple(
            (KINDS[at % 4], USES[at % 5], 100000 - at, 1000 - at, 50 - at, (at, 0, 1000), (1000, at, 1000))
            for at in range(8)
        )
        doors = tuple((at % 8, (at + 1) % 8, (None, 0, 1, 2)[at % 4], NONE, (at, at, at)) for at in range(12))
        plan = Plan(spaces, doors, (0, 50000, 100000), (1000, 0, 1))
        self.assertEqual(plan.spaces, spaces)
        self.assertEqual(plan.doors, doors)
        self.assertEqual(plan.measure_prices, (0, 50000, 100000))
        self.assertEqual(plan.prices, (1000, 0, 1))

    def test_least_plan_with_its_fields(self):
        plan = Plan((space(),), (), (), NONE)
        self.assertEqual((plan.spaces, plan.doors), ((space(),), ()))
        self.assertEqual((plan.measure_prices, plan.prices), ((), NONE))


class ValuesThatAreNotIntegersTest(PlanCase):
    """Point 3: True and False are no integers, so a plan with them breaks a rule."""

    def test_true_is_no_number(self):
        self.assert_refused(plan_of_space, with_item(GOOD_SPACE, 3, True))
        self.assert_refused(plan_of_space, with_item(GOOD_SPACE, 5, (0, False, 0)))
        self.assert_refused(plan_of_door, with_item(GOOD_DOOR, 1, True))
        self.assert_refused(plan_of_door, with_item(GOOD_DOOR, 2, False))
        self.assert_refused(Plan, (space(),), (), (True,), NONE)
        self.assert_refused(Plan, (space(),), (), (), (0, 0, True))


class PresentTest(unittest.TestCase):
    def plan(self):
        rows = ((0, 1, 1), (1, 2), (0, 2, 0), (0, 1, 1), (1, 3, 2), (2, 3))
        return house((4, None, 5, None), rows)

    def test_open_doors(self):
        plan = self.plan()
        self.assertEqual(open_doors(plan, ()), (1, 5))
        self.assertEqual(open_doors(plan, (0,)), (1, 2, 5))
        self.assertEqual(open_doors(plan, (1,)), (0, 1, 3, 5))
        self.assertEqual(open_doors(plan, (2,)), (1, 4, 5))
        self.assertEqual(open_doors(plan, (0, 2)), (1, 2, 4, 5))
        self.assertEqual(open_doors(plan, (0, 1, 2)), (0, 1, 2, 3, 4, 5))

    def test_no_open_doors(self):
        self.assertEqual(open_doors(house((1, None), ()), (0, 1, 2)), ())
        self.assertEqual(open_doors(house((1, None), ((0, 1, 2),)), (0, 1)), ())

    def test_present_elements_in_order(self):
        plan = self.plan()
        self.assertEqual(present(plan, ()), (("space", 0), ("space", 2), ("door", 1), ("door", 5)))
        self.assertEqual(
            present(plan, (1,)),
            (("space", 0), ("space", 2), ("door", 0), ("door", 1), ("door", 3), ("door", 5)),
        )

    def test_nothing_is_present(self):
        self.assertEqual(present(house((None, None), ((0, 1, 0),)), ()), ())

    def test_all_kinds_but_outsides_are_present(self):
        plan = Plan(tuple(space(1, kind) for kind in KINDS), (), (), NONE)
        self.assertEqual(present(plan, ()), (("space", 0), ("space", 1), ("space", 2)))

    def test_more_than_nine_doors_are_ordered_by_number(self):
        plan = house((1, None), ((0, 1),) * 12)
        self.assertEqual(open_doors(plan, ()), tuple(range(12)))
        self.assertEqual(present(plan, ())[1:], tuple(("door", number) for number in range(12)))


class CheckElementTest(unittest.TestCase):
    def test_elements_of_the_plan(self):
        plan = example()
        for number in range(3):
            self.assertIsNone(check_element(plan, ("space", number)))
            self.assertIsNone(check_element(plan, ("door", number)))

    def test_elements_need_not_be_present(self):
        plan = house((None, 1), ((0, 1, 2),))
        self.assertIsNone(check_element(plan, ("space", 0)))
        self.assertIsNone(check_element(plan, ("door", 0)))

    def test_pairs_that_are_no_element(self):
        plan = house((1, None), ((0, 1), (0, 1), (0, 1)))
        wrong = (
            ("space", -1), ("space", 2), ("door", -1), ("door", 3), ("door", -3), ("space", 100),
            ("", 0), ("room", 0), ("Space", 0), ("doors", 0), ("spac", 0), ("space ", 0), ("spacedoor", 0),
        )
        for element in wrong:
            with self.subTest(element), self.assertRaises(NoSuchElement):
                check_element(plan, element)

    def test_plan_without_doors(self):
        with self.assertRaises(NoSuchElement):
            check_element(house((1,), ()), ("door", 0))


class ValuesOfTest(unittest.TestCase):
    def test_present_values(self):
        spaces = ((0, 30, 250), (100, 30, 250), (0, 0, 0))
        doors = ((80, 0, 200), (80, 0, 200), (70, 0, 200))
        self.assertEqual(values_of(example()), (spaces, doors))

    def test_plan_without_doors(self):
        plan = Plan((space(1, "room", (1, 2, 3)),), (), (), NONE)
        self.assertEqual(values_of(plan), (((1, 2, 3),), ()))


class PriceTest(unittest.TestCase):
    def plan(self):
        return Plan((ROOM, CORRIDOR), (INNER, INNER), (500,), (3, 5, 2))

    def test_no_raise_has_no_price(self):
        plan = example()
        self.assertEqual(price_of(plan, values_of(plan), values_of(plan)), 0)

    def test_each_attribute_has_its_price(self):
        before = ((NONE, NONE), (NONE, NONE))
        for at, price in ((0, 3), (1, 5), (2, 2)):
            triple = with_item(NONE, at, 7)
            for after in (
                ((triple, NONE), (NONE, NONE)), ((NONE, triple), (NONE, NONE)),
                ((NONE, NONE), (triple, NONE)), ((NONE, NONE), (NONE, triple)),
            ):
                self.assertEqual(price_of(self.plan(), before, after), 7 * price)

    def test_sum_over_everything(self):
        before = (((1, 2, 3), (10, 20, 30)), ((0, 0, 0), (5, 5, 5)))
        after = (((2, 2, 3), (10, 22, 30)), ((0, 0, 4), (6, 7, 8)))
        self.assertEqual(price_of(self.plan(), before, after), 3 + 10 + 8 + (3 + 10 + 6))

    def test_values_above_the_greatest_ones(self):
        before = ((NONE, NONE), (NONE, NONE))
        after = (((2000, 0, 0), NONE), (NONE, (0, 0, 5000)))
        self.assertEqual(price_of(self.plan(), before, after), 6000 + 10000)

    def test_elements_that_are_not_present_count(self):
        plan = example()
        spaces, doors = values_of(plan)
        after = (spaces[:2] + ((1, 1, 1),), doors[:2] + ((71, 0, 200),))
        self.assertEqual(price_of(plan, values_of(plan), after), 10 + 3)


class ArgumentsTest(unittest.TestCase):
    """Point 3: no function modifies its arguments."""

    def test_plans_stay_as_they_were(self):
        plan = example()
        before = dict(vars(plan))
        open_doors(plan, (0,))
        present(plan, (0,))
        check_element(plan, ("door", 2))
        price_of(plan, values_of(plan), values_of(plan))
        self.assertEqual(vars(plan), before)
        self.assertEqual(vars(plan), vars(example()))


if __name__ == "__main__":
    unittest.main()
