"""The examples of the document, as they stand there."""

import unittest

from allout.codes import Code, read_line
from allout.judging import demanded, violations
from allout.loads import persons
from allout.plans import Plan, present, values_of
from allout.upgrades import check_reasons, least_upgrade, reasons
from allout.ways import choke_points, common_path, detour, distances, route, two_ways
from houses import example, way

WIDE = (
    "areas 1 10 5 30 20\n"
    "rule door width when (atLeast load 1) require (times 9 (quantity load))\n"
    "rule space width when (kind corridor) require (plus 10 (greatest width doors))"
)


class DocumentTest(unittest.TestCase):
    def test_example_of_plans(self):
        room = ("room", "office", 100, 10, 0, (0, 30, 250), (0, 60, 300))
        corridor = ("corridor", "office", 20, 5, 0, (100, 30, 250), (200, 60, 300))
        yard = ("outside", "shop", 0, 1, 0, (0, 0, 0), (0, 0, 0))
        inner = (0, 1, None, (80, 0, 200), (120, 90, 210))
        outer = (1, 2, None, (80, 0, 200), (160, 90, 210))
        extra = (0, 2, 0, (70, 0, 200), (100, 90, 210))
        plan = Plan((room, corridor, yard), (inner, outer, extra), (500,), (3, 5, 2))
        self.assertEqual(present(plan, ()), (("space", 0), ("space", 1), ("door", 0), ("door", 1)))

    def test_examples_of_ways(self):
        plan = example()
        self.assertEqual(distances(plan, ()), (15, 5, 0))
        self.assertEqual(choke_points(plan, (), 0), (("door", 0), ("space", 1), ("door", 1)))
        self.assertEqual(two_ways(plan, (), 0), ("through", ("door", 0)))

    def test_point_2_without_the_measure(self):
        plan = example()
        self.assertEqual(distances(plan, ())[:2], (15, 5))
        self.assertEqual(route(plan, (), 0), way(0, 1, 1, 2))
        self.assertEqual(choke_points(plan, (), 0), way(0, 1, 1))
        self.assertEqual(common_path(plan, (), 0), 15)

    def test_point_2_with_the_measure(self):
        plan = example()
        self.assertEqual(distances(plan, (0,)), (10, 5, 0))
        self.assertEqual(route(plan, (0,), 0), way(2, 2))
        self.assertEqual(choke_points(plan, (0,), 0), ())
        self.assertEqual(detour(plan, (0,), 0, ("door", 2)), ("way", way(0, 1, 1, 2), 15))

    def test_examples_of_codes(self):
        text = "areas  1 10 5 30 20\nrule door width when(atLeast load 1)require(share(quantity load)2)"
        expected = "areas 1 10 5 30 20\nrule door width when (atLeast load 1) require (share (quantity load) 2)"
        self.assertEqual(Code(text).text(), expected)
        expected = ("limit", "space", "load", ("always",), (("nothing",), ()))
        self.assertEqual(read_line("limit space load when always require nothing"), expected)

    def test_example_of_upgrades(self):
        plan = example()
        expected = (("door", 0, "width", 0, 90), ("door", 1, "width", 0, 108), ("space", 1, "width", 1, 118))
        self.assertEqual(reasons(plan, (), Code(WIDE), values_of(plan)), expected)

    def test_point_2_with_persons_and_rules(self):
        plan = example()
        wide = Code(WIDE)
        values = values_of(plan)
        self.assertEqual(persons(plan, wide.areas), (10, 2, 0))
        told = [demanded(plan, (), wide, values, ("door", number), 0) for number in range(3)]
        self.assertEqual(told, [90, 108, None])
        self.assertEqual(len(violations(plan, (), wide, values)), 2)
        after = check_reasons(plan, (), wide, values, reasons(plan, (), wide, values))
        self.assertEqual(demanded(plan, (), wide, after, ("space", 1), 1), 118)
        self.assertEqual(violations(plan, (), wide, after), ())
        self.assertEqual(least_upgrade(plan, (), wide, values), ("values", after, 3 * (10 + 28 + 18)))


if __name__ == "__main__":
    unittest.main()
