"""The examples of the document, as they stand there."""

import unittest

from allout.plans import Plan, present
from allout.ways import choke_points, common_path, detour, distances, route, two_ways
from houses import example, way


class DocumentTest(unittest.TestCase):
    def test_example_of_plans(self):
        room = ("room", "office", 100, 10, 0, (0, 30, 250), (0, 60, 300))
        corridor = ("corridor", "office", 20, 5, 0, (100, 30, 250), (200, 60, 300))
        yard = ("outside", "shop", 0, 1, 0, (0, 0, 0), (0, 0, 0))
        inner = (0, 1, None, (80, 0, 200), (120, 90, 210))
        outer = (1, 2, None, (80, 0, 200), (160, 90, 210))
        extra = (0, 2, 0, (70, 0, 200), (100, 90, 210))
        plan = Plan((room, corridor, yard), (inner, outer, extra), (500,), (3, 5, 2))
        self.assertEqual(present(plan, ()), (("space", 0), ("space", 1), ("door", 0), ("door", 1)))

    def test_examples_of_ways(self):
        plan = example()
        self.assertEqual(distances(plan, ()), (15, 5, 0))
        self.assertEqual(choke_points(plan, (), 0), (("door", 0), ("space", 1), ("door", 1)))
        self.assertEqual(two_ways(plan, (), 0), ("through", ("door", 0)))

    def test_point_2_without_the_measure(self):
        plan = example()
        self.assertEqual(distances(plan, ())[:2], (15, 5))
        self.assertEqual(route(plan, (), 0), way(0, 1, 1, 2))
        self.assertEqual(choke_points(plan, (), 0), way(0, 1, 1))
        self.assertEqual(common_path(plan, (), 0), 15)

    def test_point_2_with_the_measure(self):
        plan = example()
        self.assertEqual(distances(plan, (0,)), (10, 5, 0))
        self.assertEqual(route(plan, (0,), 0), way(2, 2))
        self.assertEqual(choke_points(plan, (0,), 0), ())
        self.assertEqual(detour(plan, (0,), 0, ("door", 2)), ("way", way(0, 1, 1, 2), 15))


if __name__ == "__main__":
    unittest.main()
