"""Points 27 to 33: what codes require of elements, and violations."""

import unittest

from allout.codes import condition_of
from allout.judging import allowed, demanded, holds, is_compliant, related, required, violations, worth
from allout.plans import Plan, present, values_of
from houses import FULL, NONE, door, example
from lines import code, limit, rule, value_tree

PLAIN = code()
SPACES = tuple(("space", number) for number in range(6))
DOORS = tuple(("door", number) for number in range(8))


def varied():
    """A plan with all kinds, with two outsides, and with a space that has no way at first."""
    spaces = (
        ("room", "office", 100, 10, 3, (10, 11, 12), FULL),
        ("corridor", "shop", 20, 5, 2, (20, 21, 22), FULL),
        ("stair", "home", 60, 7, 1, (30, 31, 32), FULL),
        ("room", "storage", 90, 4, 1, (40, 41, 42), FULL),
        ("outside", "shop", 70, 9, 0, (50, 51, 52), FULL),
        ("outside", "assembly", 10, 9, 0, (60, 61, 62), FULL),
    )
    doors = (
        door(0, 1, values=(100, 101, 102)),
        door(2, 1, values=(110, 111, 112)),
        door(2, 4, values=(120, 121, 122)),
        door(1, 2, values=(130, 131, 132)),
        door(5, 3, 0, values=(140, 141, 142)),
        door(4, 0, 1, values=(150, 151, 152)),
        door(4, 5, values=(160, 161, 162)),
        door(3, 0, 1, values=(170, 171, 172)),
    )
    return Plan(spaces, doors, (1, 2, 3), NONE)


def with_value(values, element, at, value):
    """Values with another one for an attribute of an element."""
    kind, number = element
    parts = [list(part) for part in values]
    row = parts[("space", "door").index(kind)]
    row[number] = row[number][:at] + (value,) + row[number][at + 1:]
    return tuple(tuple(part) for part in parts)


class ConditionsTest(unittest.TestCase):
    def places(self, text, measures=(), of=PLAIN):
        """Where a condition holds: the numbers of spaces, and of doors."""
        plan = varied()
        tree = condition_of(text)
        told = [holds(plan, measures, of, element, tree) for element in SPACES + DOORS]
        self.assertLessEqual(set(map(type, told)), {bool})
        where = [at for at, answer in enumerate(told) if answer is True]
        return tuple(at for at in where if at < 6), tuple(at - 6 for at in where if at >= 6)

    def test_always(self):
        self.assertEqual(self.places("always"), (tuple(range(6)), tuple(range(8))))

    def test_kind_at_spaces_and_doors(self):
        self.assertEqual(self.places("(kind room)"), ((0, 3), (0, 4, 5, 7)))
        self.assertEqual(self.places("(kind corridor)"), ((1,), (0, 1, 3)))
        self.assertEqual(self.places("(kind stair)"), ((2,), (1, 2, 3)))

    def test_kind_beside_an_outside(self):
        self.assertEqual(self.places("(kind outside)"), ((4, 5), (2, 4, 5, 6)))

    def test_use_at_spaces_and_doors(self):
        self.assertEqual(self.places("(use office)"), ((0,), (0, 5, 7)))
        self.assertEqual(self.places("(use home)"), ((2,), (1, 2, 3)))
        self.assertEqual(self.places("(use storage)"), ((3,), (4, 7)))

    def test_use_beside_an_outside(self):
        self.assertEqual(self.places("(use shop)"), ((1, 4), (0, 1, 3)))
        self.assertEqual(self.places("(use assembly)"), ((5,), ()))

    def test_installed(self):
        everywhere = (tuple(range(6)), tuple(range(8)))
        for measures in ((), (0,), (1,), (2,), (0, 2), (0, 1, 2)):
            for number in range(4):
                expected = everywhere if number in measures else ((), ())
                self.assertEqual(self.places(f"(installed {number})", measures), expected)

    def test_at_least(self):
        self.assertEqual(self.places("(atLeast storey 1)"), ((0, 1, 2, 3), ()))
        self.assertEqual(self.places("(atLeast storey 2)"), ((0, 1), ()))
        self.assertEqual(self.places("(atLeast storey 0)"), (tuple(range(6)), tuple(range(8))))
        self.assertEqual(self.places("(atLeast area 90)"), ((0, 3), ()))
        self.assertEqual(self.places("(atLeast area 91)"), ((0,), ()))
        self.assertEqual(self.places("(atLeast distance 22)"), ((0, 3), ()))
        self.assertEqual(self.places("(atLeast distance 23)"), ((3,), ()))
        self.assertEqual(self.places("(atLeast chokePoints 100000)"), ((3,), ()))
        self.assertEqual(self.places("(atLeast commonPath 12)"), ((0, 1, 3), ()))
        self.assertEqual(self.places("(atLeast doors 3)"), ((1, 2), ()))

    def test_at_least_with_loads(self):
        self.assertEqual(self.places("(atLeast load 14)"), ((1, 2, 4), (1, 2)))
        self.assertEqual(self.places("(atLeast load 15)"), ((2, 4), (2,)))
        self.assertEqual(self.places("(atLeast load 17)"), ((2, 4), (2,)))
        self.assertEqual(self.places("(atLeast load 18)"), ((), ()))
        self.assertEqual(self.places("(atLeast persons 4)"), ((0, 1), ()))

    def test_at_least_takes_measures_and_the_areas_of_the_code(self):
        self.assertEqual(self.places("(atLeast load 3)", (0,)), ((0, 1, 2, 3, 4, 5), (0, 1, 2, 4)))
        other = code(areas="areas 1 100 1 1 1")
        self.assertEqual(self.places("(atLeast persons 60)", (), other), ((2, 3), ()))
        self.assertEqual(self.places("(atLeast load 1)", (), other), ((0, 1, 2, 3, 4), (0, 1, 2)))

    def test_closed_doors_have_no_load(self):
        self.assertEqual(self.places("(not (atLeast load 1))"), ((5,), (3, 4, 5, 6, 7)))
        self.assertEqual(self.places("(not (atLeast load 1))", (1,)), ((5,), (0, 3, 4, 6)))

    def test_words(self):
        self.assertEqual(self.places("(not (kind room))"), ((1, 2, 4, 5), (1, 2, 3, 6)))
        self.assertEqual(self.places("(and (kind room) (use office))"), ((0,), (0, 5, 7)))
        self.assertEqual(self.places("(or (kind stair) (use storage))"), ((2, 3), (1, 2, 3, 4, 7)))
        for first in ("always", "(not always)"):
            for second in ("always", "(not always)"):
                both = first == second == "always"
                either = "always" in (first, second)
                self.assertEqual(bool(self.places(f"(and {first} {second})")[0]), both)
                self.assertEqual(bool(self.places(f"(or {first} {second})")[0]), either)

    def test_words_within_words(self):
        text = "(and (not (or (kind outside) (use home))) (or (atLeast storey 3) (kind corridor)))"
        self.assertEqual(self.places(text), ((0, 1), (0,)))
        self.assertEqual(self.places(f"(not {text})"), ((2, 3, 4, 5), (1, 2, 3, 4, 5, 6, 7)))


class RelatedTest(unittest.TestCase):
    def spaces(self, relation, measures=()):
        told = [related(varied(), measures, element, relation) for element in SPACES]
        for row in told:
            self.assertIsInstance(row, tuple)
            self.assertEqual({kind for kind, _ in row}, ({"door" if relation == "doors" else "space"} if row else set()))
        return [tuple(number for _, number in row) for row in told]

    def test_doors(self):
        self.assertEqual(self.spaces("doors"), [(0,), (0, 1, 3), (1, 2, 3), (), (2, 6), (6,)])
        self.assertEqual(self.spaces("doors", (0, 1)), [(0, 5, 7), (0, 1, 3), (1, 2, 3), (4, 7), (2, 5, 6), (4, 6)])

    def test_neighbors(self):
        self.assertEqual(self.spaces("neighbors"), [(1,), (0, 2), (1, 4), (), (2, 5), (4,)])
        self.assertEqual(self.spaces("neighbors", (0, 1)), [(1, 3, 4), (0, 2), (1, 4), (0, 5), (0, 2, 5), (3, 4)])

    def test_next(self):
        self.assertEqual(self.spaces("next"), [(1,), (2,), (4,), (), (), ()])
        self.assertEqual(self.spaces("next", (0,)), [(1,), (2,), (4,), (5,), (), ()])
        self.assertEqual(self.spaces("next", (1,)), [(4,), (2,), (4,), (0,), (), ()])

    def test_before(self):
        self.assertEqual(self.spaces("before"), [(), (0,), (1,), (), (2,), ()])
        self.assertEqual(self.spaces("before", (0,)), [(), (0,), (1,), (), (2,), (3,)])
        self.assertEqual(self.spaces("before", (1,)), [(3,), (), (1,), (), (0, 2), ()])

    def test_sides_of_spaces(self):
        self.assertEqual(self.spaces("sides"), [()] * 6)

    def test_sides_of_doors(self):
        expected = [(0, 1), (2, 1), (2, 4), (1, 2), (5, 3), (4, 0), (4, 5), (3, 0)]
        for measures in ((), (0, 1)):
            told = [related(varied(), measures, element, "sides") for element in DOORS]
            self.assertEqual(told, [(("space", one), ("space", two)) for one, two in expected])

    def test_other_relations_of_doors(self):
        for element in DOORS:
            for relation in ("doors", "neighbors", "next", "before"):
                self.assertEqual(related(varied(), (0, 1), element, relation), ())


class WorthTest(unittest.TestCase):
    def worth(self, text, element=("space", 1), measures=(), values=None, of=PLAIN):
        plan = varied()
        values = values_of(plan) if values is None else values
        return worth(plan, measures, of, values, element, value_tree(text))

    def test_numbers(self):
        for number in (0, 1, 100000):
            self.assertEqual(self.worth(str(number)), number)

    def test_own(self):
        for at, name in enumerate(("width", "rating", "height")):
            for number in range(6):
                self.assertEqual(self.worth(f"(own {name})", ("space", number)), 10 * (number + 1) + at)
            for number in range(8):
                self.assertEqual(self.worth(f"(own {name})", ("door", number)), 100 + 10 * number + at)

    def test_given_values_count_and_not_those_of_the_plan(self):
        values = with_value(values_of(varied()), ("space", 1), 1, 777)
        self.assertEqual(self.worth("(own rating)", values=values), 777)
        self.assertEqual(self.worth("(greatest rating neighbors)", ("space", 0), values=values), 777)
        self.assertEqual(self.worth("(sum rating sides)", ("door", 0), values=values), 788)
        self.assertEqual(self.worth("(own width)", values=values), 20)

    def test_greatest(self):
        self.assertEqual(self.worth("(greatest width doors)"), 130)
        self.assertEqual(self.worth("(greatest rating neighbors)"), 31)
        self.assertEqual(self.worth("(greatest height next)"), 32)
        self.assertEqual(self.worth("(greatest height before)"), 12)
        self.assertEqual(self.worth("(greatest width sides)", ("door", 1)), 30)
        self.assertEqual(self.worth("(greatest width neighbors)", ("space", 2)), 50)

    def test_sum(self):
        self.assertEqual(self.worth("(sum width doors)"), 100 + 110 + 130)
        self.assertEqual(self.worth("(sum rating neighbors)"), 11 + 31)
        self.assertEqual(self.worth("(sum height next)"), 32)
        self.assertEqual(self.worth("(sum width before)", ("space", 4), (1,)), 10 + 30)
        self.assertEqual(self.worth("(sum width sides)", ("door", 2)), 30 + 50)
        self.assertEqual(self.worth("(sum width sides)", ("door", 6)), 50 + 60)

    def test_no_related_elements(self):
        for word in ("greatest", "sum"):
            self.assertEqual(self.worth(f"({word} width sides)"), 0)
            self.assertEqual(self.worth(f"({word} width doors)", ("door", 0)), 0)
            self.assertEqual(self.worth(f"({word} width next)", ("space", 3)), 0)
            self.assertEqual(self.worth(f"({word} width before)", ("space", 0)), 0)

    def test_measures_change_related_elements_and_quantities(self):
        self.assertEqual(self.worth("(greatest width doors)", ("space", 0), (1,)), 170)
        self.assertEqual(self.worth("(quantity doors)", ("space", 0), (1,)), 3)
        self.assertEqual(self.worth("(quantity doors)", ("space", 0)), 1)

    def test_quantity(self):
        names = ("persons", "load", "distance", "commonPath", "chokePoints", "doors", "area", "storey")
        told = [self.worth(f"(quantity {name})") for name in names]
        self.assertEqual(told, [4, 14, 12, 12, 2, 3, 20, 2])
        told = [self.worth(f"(quantity {name})", ("door", 2)) for name in names]
        self.assertEqual(told, [0, 17, 0, 0, 0, 0, 0, 0])
        for name in ("distance", "commonPath", "chokePoints"):
            self.assertEqual(self.worth(f"(quantity {name})", ("space", 3)), 999999)
        self.assertEqual(self.worth("(quantity load)", of=code(areas="areas 1 100 1 1 1")), 21)

    def test_table(self):
        text = "(table {} 3 10 5 20 9 20 10 21)"
        for number, expected in ((0, 0), (2, 0), (3, 10), (4, 10), (5, 20), (8, 20), (9, 20), (10, 21), (100000, 21)):
            self.assertEqual(self.worth(text.format(number)), expected, number)
        self.assertEqual(self.worth("(table 0 0 6)"), 6)
        self.assertEqual(self.worth("(table (own width) 20 7)"), 7)

    def test_plus_and_larger(self):
        self.assertEqual(self.worth("(plus 3 4)"), 7)
        self.assertEqual(self.worth("(larger 3 4)"), 4)
        self.assertEqual(self.worth("(larger 4 3)"), 4)
        self.assertEqual(self.worth("(plus (own width) (larger 5 (own rating)))"), 41)

    def test_times_and_share(self):
        self.assertEqual(self.worth("(times 0 5)"), 0)
        self.assertEqual(self.worth("(times 7 (own width))"), 140)
        for number, expected in ((0, 0), (1, 1), (6, 1), (7, 1), (8, 2), (14, 2), (15, 3)):
            self.assertEqual(self.worth(f"(share {number} 7)"), expected)
        self.assertEqual(self.worth("(share 100 1)"), 100)
        self.assertEqual(self.worth("(share 101 100)"), 2)

    def test_values_above_a_million(self):
        self.assertEqual(self.worth("(times 10 100000)"), 1000000)
        self.assertEqual(self.worth("(times 11 100000)"), 1000000)
        self.assertEqual(self.worth("(plus (times 10 100000) 1)"), 1000000)
        self.assertEqual(self.worth("(plus (times 9 100000) 99999)"), 999999)
        self.assertEqual(self.worth("(times 100 (times 100 (times 100 100000)))"), 1000000)
        self.assertEqual(self.worth("(larger 1 (times 11 100000))"), 1000000)

    def test_values_above_a_million_within_others(self):
        self.assertEqual(self.worth("(share (times 100 100000) 100)"), 10000)
        self.assertEqual(self.worth("(share (plus (times 10 100000) (times 10 100000)) 2)"), 500000)
        self.assertEqual(self.worth("(share (times 2 (share (times 100 100000) 2)) 100)"), 10000)

    def test_given_values_above_a_million(self):
        values = values_of(varied())
        for element in (("space", 0), ("space", 2), ("space", 1)):
            values = with_value(values, element, 0, 1500000)
        for text in ("(own width)", "(greatest width neighbors)", "(sum width neighbors)", "(times 1 (own width))"):
            self.assertEqual(self.worth(text, values=values), 1000000)
        self.assertEqual(self.worth("(share (own width) 100)", values=values), 10000)
        half = with_value(with_value(values, ("space", 0), 0, 600000), ("space", 2), 0, 600000)
        self.assertEqual(self.worth("(share (sum width neighbors) 10)", values=half), 100000)


class DemandedTest(unittest.TestCase):
    def demanded(self, line, element, measures=(), values=None):
        plan = varied()
        values = values_of(plan) if values is None else values
        return demanded(plan, measures, code(line), values, element, 0)

    def at_spaces(self, line, measures=()):
        return [self.demanded(line, element, measures) for element in SPACES]

    def test_subjects(self):
        self.assertEqual([self.demanded(rule("5"), element) for element in SPACES + DOORS], [5] * 6 + [None] * 8)
        line = rule("5", about="door width")
        self.assertEqual([self.demanded(line, element) for element in SPACES + DOORS], [None] * 6 + [5] * 8)

    def test_conditions(self):
        self.assertEqual(self.at_spaces(rule("5", "(kind room)")), [5, None, None, 5, None, None])
        self.assertEqual(self.at_spaces(rule("5", "(installed 1)")), [None] * 6)
        self.assertEqual(self.at_spaces(rule("5", "(installed 1)"), (1,)), [5] * 6)

    def test_zero_is_required_and_nothing_is_not(self):
        self.assertEqual(self.at_spaces(rule("0")), [0] * 6)
        self.assertEqual(self.at_spaces(rule("nothing")), [None] * 6)

    def test_values_and_quantities(self):
        self.assertEqual(self.at_spaces(rule("(own rating)")), [11, 21, 31, 41, 51, 61])
        self.assertEqual(self.at_spaces(rule("(quantity area)")), [100, 20, 60, 90, 70, 10])
        values = with_value(values_of(varied()), ("space", 0), 1, 99)
        self.assertEqual(self.demanded(rule("(own rating)"), ("space", 0), values=values), 99)

    def test_first_exception_that_holds_decides(self):
        exceptions = " except when (kind room) require (2) except when (use storage) require (3)"
        self.assertEqual(self.at_spaces(rule("1" + exceptions)), [2, 1, 1, 2, 1, 1])
        exceptions = " except when (use storage) require (3) except when (kind room) require (2)"
        self.assertEqual(self.at_spaces(rule("1" + exceptions)), [2, 1, 1, 3, 1, 1])
        exceptions += " except when always require (4)"
        self.assertEqual(self.at_spaces(rule("1" + exceptions)), [2, 4, 4, 3, 4, 4])

    def test_exceptions_of_exceptions(self):
        line = rule("1 except when (kind room) require (2 except when (use storage) require (3 except when"
                    " (installed 0) require (nothing)) except when (installed 0) require (4)) except when"
                    " (kind outside) require (5)")
        self.assertEqual(self.at_spaces(line), [2, 1, 1, 3, 5, 5])
        self.assertEqual(self.at_spaces(line, (0,)), [4, 1, 1, None, 5, 5])

    def test_an_exception_that_holds_keeps_later_ones_away_even_with_nothing(self):
        line = rule("1 except when (kind room) require (nothing) except when always require (3)")
        self.assertEqual(self.at_spaces(line), [None, 3, 3, None, 3, 3])
        line = rule("1 except when (kind room) require (2 except when (not always) require (9))"
                    " except when always require (3)")
        self.assertEqual(self.at_spaces(line), [2, 3, 3, 2, 3, 3])

    def test_exceptions_from_nothing(self):
        line = rule("nothing except when (kind stair) require ((own width))")
        self.assertEqual(self.at_spaces(line), [None, None, 30, None, None, None])

    def test_condition_of_the_rule_comes_ahead_of_its_exceptions(self):
        line = rule("1 except when always require (2)", "(kind stair)")
        self.assertEqual(self.at_spaces(line), [None, None, 2, None, None, None])

    def test_elements_that_are_not_present(self):
        line = rule("(plus 1 (own width))", about="door width")
        self.assertEqual(self.demanded(line, ("door", 4)), 141)
        self.assertEqual(self.demanded(rule("(own height)"), ("space", 5)), 62)

    def test_rules_by_number(self):
        codes = code(rule("1"), rule("2", about="door height"), rule("3"))
        told = [demanded(varied(), (), codes, values_of(varied()), ("space", 0), number) for number in range(3)]
        self.assertEqual(told, [1, None, 3])


class AllowedTest(unittest.TestCase):
    def at_spaces(self, line, measures=()):
        return [allowed(varied(), measures, code(line), element, 0) for element in SPACES]

    def test_subjects_and_conditions(self):
        line = limit("5", about="door load")
        told = [allowed(varied(), (), code(line), element, 0) for element in SPACES + DOORS]
        self.assertEqual(told, [None] * 6 + [5] * 8)
        self.assertEqual(self.at_spaces(limit("5", "(kind room)")), [5, None, None, 5, None, None])

    def test_nothing_allows_every_value_and_zero_only_zero(self):
        self.assertEqual(self.at_spaces(limit("nothing")), [None] * 6)
        self.assertEqual(self.at_spaces(limit("0")), [0] * 6)

    def test_expressions_and_exceptions(self):
        line = limit("(times 2 (quantity area)) except when (kind room) require (nothing except when"
                     " (use storage) require (7)) except when (installed 2) require (8)")
        self.assertEqual(self.at_spaces(line), [None, 40, 120, 7, 140, 20])
        self.assertEqual(self.at_spaces(line, (2,)), [None, 8, 8, 7, 8, 8])

    def test_areas_of_the_code(self):
        codes = code(limit("(quantity persons)"), areas="areas 1 100 1 1 1")
        self.assertEqual(allowed(varied(), (), codes, ("space", 0), 0), 1)

    def test_limits_by_number(self):
        codes = code(rule("9"), limit("1"), limit("2", about="door load"), limit("3"))
        told = [allowed(varied(), (), codes, ("space", 0), number) for number in range(3)]
        self.assertEqual(told, [1, None, 3])

    def test_values_above_a_million(self):
        self.assertEqual(self.at_spaces(limit("(times 100 100000)")), [1000000] * 6)


class CodesTest(unittest.TestCase):
    """Point 27: one Code for all, or one for each element."""

    def pair(self):
        of_spaces = tuple(code(rule(str(number)), limit(str(number + 10))) for number in range(6))
        of_doors = tuple(code(rule(str(number + 20), about="door width"), limit(str(number + 30), about="door load"))
                         for number in range(8))
        return (of_spaces, of_doors)

    def test_each_element_has_its_code(self):
        plan = varied()
        values = values_of(plan)
        told = [demanded(plan, (), self.pair(), values, element, 0) for element in SPACES + DOORS]
        self.assertEqual(told, list(range(6)) + list(range(20, 28)))
        told = [allowed(plan, (), self.pair(), element, 0) for element in SPACES + DOORS]
        self.assertEqual(told, list(range(10, 16)) + list(range(30, 38)))
        told = [required(plan, (0, 1), self.pair(), values, element, "width") for element in SPACES + DOORS]
        self.assertEqual(told, [0, 1, 2, 3, 0, 0] + list(range(20, 28)))

    def test_each_code_has_its_areas(self):
        wide = code(rule("(quantity load)"), areas="areas 100 100 100 100 100")
        close = code(rule("(quantity load)"), areas="areas 1 1 1 1 1")
        codes = ((wide, close, wide, wide, wide, wide), (wide,) * 8)
        told = [demanded(varied(), (), codes, values_of(varied()), element, 0) for element in SPACES]
        self.assertEqual(told, [1, 120, 3, 1, 3, 0])

    def test_codes_with_unlike_numbers_of_rules(self):
        none = code()
        two = code(rule("15"), rule("500", about="space height"), limit("0", about="space storey"))
        codes = ((none, none, two, none, two, none), (none,) * 8)
        found = violations(varied(), (), codes, values_of(varied()))
        self.assertEqual(found, (("rule", 1, "space", 2, 32, 500), ("limit", 0, "space", 2, 1, 0)))

    def test_pair_of_one_code_is_like_the_code(self):
        plan = varied()
        one = code(rule("25"), rule("(times 10 (quantity load))", about="door width"), limit("3", about="space doors"))
        pair = ((one,) * 6, (one,) * 8)
        for measures in ((), (0, 1)):
            alone = violations(plan, measures, one, values_of(plan))
            self.assertNotEqual(alone, ())
            self.assertEqual(violations(plan, measures, pair, values_of(plan)), alone)


class RequiredTest(unittest.TestCase):
    def required(self, element, attribute, *lines, measures=()):
        plan = varied()
        return required(plan, measures, code(*lines), values_of(plan), element, attribute)

    def test_greatest_of_all_rules(self):
        lines = (rule("5"), rule("9"), rule("7"), rule("100", about="space height"), rule("100", about="door width"))
        self.assertEqual(self.required(("space", 0), "width", *lines), 9)
        self.assertEqual(self.required(("space", 0), "height", *lines), 100)
        self.assertEqual(self.required(("door", 0), "width", *lines), 100)

    def test_no_rules(self):
        self.assertEqual(self.required(("space", 0), "width"), 0)
        self.assertEqual(self.required(("space", 0), "rating", rule("5"), rule("7", "(kind stair)", "space rating")), 0)
        self.assertEqual(self.required(("space", 0), "width", rule("nothing")), 0)

    def test_elements_that_are_not_present(self):
        lines = (rule("5"), rule("6", about="door width"))
        self.assertEqual(self.required(("space", 4), "width", *lines), 0)
        self.assertEqual(self.required(("door", 4), "width", *lines), 0)
        self.assertEqual(self.required(("door", 4), "width", *lines, measures=(0,)), 6)

    def test_values_below_the_present_one_are_required_too(self):
        self.assertEqual(self.required(("space", 3), "width", rule("(own width)"), rule("3")), 40)
        self.assertEqual(self.required(("space", 3), "width", rule("3")), 3)


class ViolationsTest(unittest.TestCase):
    def violations(self, *lines, measures=(), values=None):
        plan = varied()
        values = values_of(plan) if values is None else values
        found = violations(plan, measures, code(*lines), values)
        compliant = is_compliant(plan, measures, code(*lines), values)
        self.assertIs(compliant, found == ())
        return found

    def test_example(self):
        wide = code("rule door width when (atLeast load 1) require (times 9 (quantity load))",
                    "rule space width when (kind corridor) require (plus 10 (greatest width doors))")
        found = violations(example(), (), wide, values_of(example()))
        self.assertEqual(found, (("rule", 0, "door", 0, 80, 90), ("rule", 0, "door", 1, 80, 108)))
        raised = with_value(with_value(values_of(example()), ("door", 0), 0, 90), ("door", 1), 0, 108)
        found = violations(example(), (), wide, raised)
        self.assertEqual(found, (("rule", 1, "space", 1, 100, 118),))
        self.assertTrue(is_compliant(example(), (), wide, with_value(raised, ("space", 1), 0, 118)))

    def test_no_rules(self):
        self.assertEqual(self.violations(), ())

    def test_values_at_the_bound(self):
        self.assertEqual(self.violations(rule("30", "(kind stair)")), ())
        self.assertEqual(self.violations(rule("31", "(kind stair)")), (("rule", 0, "space", 2, 30, 31),))
        self.assertEqual(self.violations(limit("1", "(kind stair)", "space storey")), ())
        self.assertEqual(self.violations(limit("0", "(kind stair)", "space storey")), (("limit", 0, "space", 2, 1, 0),))

    def test_order(self):
        lines = (
            rule("115", about="door width"), rule("22"), rule("33", about="space height"), rule("23"),
            limit("14", about="door load"), limit("2", about="space doors"), limit("10", about="space persons"),
            limit("2", about="space storey"),
        )
        self.assertEqual(self.violations(*lines), (
            ("rule", 1, "space", 0, 10, 22), ("rule", 2, "space", 0, 12, 33), ("rule", 3, "space", 0, 10, 23),
            ("limit", 3, "space", 0, 3, 2),
            ("rule", 1, "space", 1, 20, 22), ("rule", 2, "space", 1, 22, 33), ("rule", 3, "space", 1, 20, 23),
            ("limit", 1, "space", 1, 3, 2),
            ("rule", 2, "space", 2, 32, 33), ("limit", 1, "space", 2, 3, 2),
            ("rule", 0, "door", 0, 100, 115), ("rule", 0, "door", 1, 110, 115),
            ("limit", 0, "door", 2, 17, 14),
        ))

    def test_elements_that_are_not_present(self):
        lines = (rule("1000"), rule("1000", about="door width"), limit("0", about="space doors"))
        found = self.violations(*lines)
        self.assertEqual({row[2:4] for row in found}, set(present(varied(), ())))
        found = self.violations(*lines, measures=(0,))
        self.assertIn(("rule", 1, "door", 4, 140, 1000), found)
        self.assertIn(("limit", 0, "space", 3, 1, 0), found)

    def test_given_values_count(self):
        values = with_value(values_of(varied()), ("door", 0), 2, 5)
        found = self.violations(rule("50", about="door height"), values=values)
        self.assertEqual(found, (("rule", 0, "door", 0, 5, 50),))

    def test_values_of_elements_that_are_not_present_still_count_for_others(self):
        found = self.violations(rule("(greatest width neighbors)", "(kind stair)"))
        self.assertEqual(found, (("rule", 0, "space", 2, 30, 50),))

    def test_quantities_without_a_way(self):
        found = self.violations(limit("100000", about="space distance"), limit("(times 10 100000)", about="space distance"))
        self.assertEqual(found, (("limit", 0, "space", 3, 999999, 100000),))
        self.assertEqual(self.violations(limit("100000", about="space distance"), measures=(0,)), ())

    def test_limits_of_doors(self):
        self.assertEqual(self.violations(limit("0", about="door distance"), limit("0", about="door doors")), ())
        found = self.violations(limit("13", about="door load"))
        self.assertEqual(found, (("limit", 0, "door", 1, 14, 13), ("limit", 0, "door", 2, 17, 13)))

    def test_measures_change_violations(self):
        line = limit("12", about="space distance")
        self.assertEqual([row[3] for row in self.violations(line)], [0, 3])
        self.assertEqual(self.violations(line, measures=(0, 1)), ())

    def test_arguments_stay_as_they_were(self):
        plan = varied()
        before = dict(vars(plan))
        codes = code(rule("(sum width doors)"), limit("0"))
        rows = dict(vars(codes))
        violations(plan, (0,), codes, values_of(plan))
        required(plan, (0,), codes, values_of(plan), ("space", 0), "width")
        self.assertEqual(vars(plan), before)
        self.assertEqual(vars(codes), rows)


if __name__ == "__main__":
    unittest.main()
