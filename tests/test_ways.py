"""Points 10 to 16: ways out."""

import unittest

from allout.errors import NoSuchElement, NothingToAvoid
from allout.ways import choke_points, common_path, detour, distances, route, two_ways, way_length
from houses import example, house, way


def circle():
    """Spaces 0 to 3 in a circle, with an outside behind space 2."""
    return house((1, 10, 100, 1000, None), ((0, 1), (1, 2), (2, 3), (3, 0), (2, 4)))


class DistancesTest(unittest.TestCase):
    def test_outsides_and_spaces_without_a_way(self):
        plan = house((7, None, 3, 2, None), ((2, 3), (1, 4)))
        self.assertEqual(distances(plan, ()), (None, 0, None, None, 0))

    def test_space_itself_counts_and_the_outside_does_not(self):
        self.assertEqual(distances(house((7, None), ((1, 0),)), ()), (7, 0))

    def test_shortest_of_several_ways(self):
        plan = house((1, 9, 2, 3, None), ((0, 1), (1, 4), (0, 2), (2, 3), (3, 4)))
        self.assertEqual(distances(plan, ()), (6, 9, 5, 3, 0))

    def test_doors_that_only_a_measure_opens(self):
        plan = house((5, 6, None), ((0, 1), (1, 2, 1), (0, 2, 0)))
        self.assertEqual(distances(plan, ()), (None, None, 0))
        self.assertEqual(distances(plan, (0,)), (5, 11, 0))
        self.assertEqual(distances(plan, (1,)), (11, 6, 0))
        self.assertEqual(distances(plan, (0, 1)), (5, 6, 0))
        self.assertEqual(distances(plan, (2,)), (None, None, 0))

    def test_ways_in_a_circle(self):
        self.assertEqual(distances(circle(), ()), (111, 110, 100, 1100, 0))

    def test_no_way_leads_through_an_outside(self):
        plan = house((1, None, 1, None), ((0, 1), (1, 2), (1, 3)))
        self.assertEqual(distances(plan, ()), (1, 0, 1, 0))
        self.assertEqual(distances(house((1, None), ()), ()), (None, 0))

    def test_a_line_of_eight_spaces_in_either_order(self):
        rows = tuple((at, at + 1) for at in range(7))
        self.assertEqual(distances(house((1,) * 7 + (None,), rows), ()), (7, 6, 5, 4, 3, 2, 1, 0))
        self.assertEqual(distances(house((None,) + (1,) * 7, rows), ()), (0, 1, 2, 3, 4, 5, 6, 7))

    def test_length_of_an_outside_never_counts(self):
        self.assertEqual(distances(example(), ()), (15, 5, 0))


class WayLengthTest(unittest.TestCase):
    def test_ordinary_ways(self):
        plan = example()
        self.assertEqual(way_length(plan, (), 0, (0, 1)), 15)
        self.assertEqual(way_length(plan, (), 1, (1,)), 5)
        self.assertEqual(way_length(plan, (0,), 0, (2,)), 10)
        self.assertEqual(way_length(plan, (0,), 1, (0, 2)), 15)

    def test_spaces_and_doors_that_are_passed_several_times(self):
        plan = circle()
        self.assertEqual(way_length(plan, (), 0, (0, 0, 0, 1, 4)), 1 + 10 + 1 + 10 + 100)
        self.assertEqual(way_length(plan, (), 0, (0, 1, 2, 3, 0, 1, 4)), 1 + 10 + 100 + 1000 + 1 + 10 + 100)
        self.assertEqual(way_length(plan, (), 2, (1, 1, 4)), 100 + 10 + 100)

    def test_way_that_goes_on_behind_an_outside(self):
        plan = house((1, None, 1, None), ((0, 1), (1, 2), (2, 3)))
        self.assertEqual(way_length(plan, (), 0, (0,)), 1)
        for doors in ((0, 1, 2), (0, 0, 0), (0, 1), (0, 2)):
            self.assertIsNone(way_length(plan, (), 0, doors), doors)

    def test_way_that_ends_at_no_outside(self):
        plan = circle()
        for doors in ((0,), (0, 1), (0, 1, 2), (3, 3)):
            self.assertIsNone(way_length(plan, (), 0, doors), doors)

    def test_door_that_is_not_open(self):
        plan = example()
        self.assertIsNone(way_length(plan, (), 0, (2,)))
        self.assertIsNone(way_length(plan, (), 1, (0, 2)))
        two = house((1, 1, None), ((0, 1, 0), (1, 2, 1)))
        self.assertEqual(way_length(two, (0, 1), 0, (0, 1)), 2)
        self.assertIsNone(way_length(two, (0,), 0, (0, 1)))
        self.assertIsNone(way_length(two, (1,), 0, (0, 1)))

    def test_door_that_is_not_at_the_space_that_was_reached(self):
        plan = circle()
        self.assertIsNone(way_length(plan, (), 0, (4,)))
        self.assertIsNone(way_length(plan, (), 0, (0, 4)))
        self.assertIsNone(way_length(plan, (), 0, (0, 2, 4)))

    def test_no_door_at_all(self):
        plan = circle()
        self.assertEqual(way_length(plan, (), 4, ()), 0)
        self.assertIsNone(way_length(plan, (), 2, ()))

    def test_doors_from_an_outside(self):
        plan = house((1, None, None), ((0, 1), (1, 2)))
        for doors in ((0,), (1,), (0, 0), (1, 1)):
            self.assertIsNone(way_length(plan, (), 1, doors), doors)

    def test_door_to_the_first_of_its_spaces(self):
        self.assertEqual(way_length(house((None, 3, 4), ((1, 2), (0, 1))), (), 2, (0, 1)), 7)


class RouteTest(unittest.TestCase):
    def test_outsides_and_spaces_without_a_way(self):
        plan = house((7, None, 3), ((0, 2),))
        self.assertEqual(route(plan, (), 1), ())
        self.assertIsNone(route(plan, (), 0))

    def test_shortest_way(self):
        plan = house((1, 9, 2, 3, None), ((0, 1), (1, 4), (0, 2), (2, 3), (3, 4)))
        self.assertEqual(route(plan, (), 0), way(2, 2, 3, 3, 4, 4))

    def test_least_door_between_the_same_two_spaces(self):
        plan = house((1, 1, None), ((1, 2), (1, 0), (0, 1), (2, 1)))
        self.assertEqual(route(plan, (), 0), way(1, 1, 0, 2))

    def test_least_first_door_of_several_shortest_ways(self):
        plan = house((1, 2, 2, None), ((2, 3), (0, 2), (0, 1), (1, 3)))
        self.assertEqual(route(plan, (), 0), way(1, 2, 0, 3))
        plan = house((1, 2, 2, None), ((2, 3), (0, 1), (0, 2), (1, 3)))
        self.assertEqual(route(plan, (), 0), way(1, 1, 3, 3))

    def test_least_door_behind_the_first_one(self):
        rows = ((4, 5), (0, 1), (1, 3), (1, 2), (2, 5), (3, 5), (1, 4))
        plan = house((1, 1, 2, 2, 2, None), rows)
        self.assertEqual(route(plan, (), 0), way(1, 1, 2, 3, 5, 5))
        plan = house((1, 1, 2, 2, 1, None), rows)
        self.assertEqual(route(plan, (), 0), way(1, 1, 6, 4, 0, 5))

    def test_first_door_goes_ahead_of_a_lesser_later_door(self):
        plan = house((1, 1, 1, None), ((2, 3), (0, 1), (0, 2), (1, 3)))
        self.assertEqual(route(plan, (), 0), way(1, 1, 3, 3))

    def test_length_goes_ahead_of_the_first_door(self):
        plan = house((1, 5, 1, None), ((0, 1), (1, 3), (0, 2), (2, 3)))
        self.assertEqual(route(plan, (), 0), way(2, 2, 3, 3))

    def test_several_outsides(self):
        plan = house((1, None, None), ((0, 2), (0, 1)))
        self.assertEqual(route(plan, (), 0), way(0, 2))

    def test_doors_are_compared_as_numbers(self):
        rows = ((2, 3),) * 2 + ((0, 1),) + ((2, 3),) * 8 + ((0, 1),)
        self.assertEqual(route(house((1, None, 1, None), rows), (), 0), way(2, 1))

    def test_measures(self):
        plan = house((1, None), ((0, 1, 1), (0, 1, 0), (0, 1)))
        self.assertEqual(route(plan, (), 0), way(2, 1))
        self.assertEqual(route(plan, (0,), 0), way(1, 1))
        self.assertEqual(route(plan, (0, 1), 0), way(0, 1))


class ChokePointsTest(unittest.TestCase):
    def test_doors_and_spaces_in_the_order_of_the_route(self):
        plan = house((1, 1, 1, None), ((2, 3), (1, 0), (1, 2)))
        self.assertEqual(choke_points(plan, (), 0), way(1, 1, 2, 2, 0))
        self.assertEqual(choke_points(plan, (), 1), way(2, 2, 0))
        self.assertEqual(choke_points(plan, (), 2), way(0))

    def test_spaces_alone(self):
        plan = house((1, 1, None), ((0, 1), (0, 1), (1, 2), (1, 2)))
        self.assertEqual(choke_points(plan, (), 0), (("space", 1),))
        self.assertEqual(choke_points(plan, (), 1), ())

    def test_doors_alone(self):
        plan = house((1, 1, None), ((0, 1), (0, 1), (1, 2)))
        self.assertEqual(choke_points(plan, (), 1), (("door", 2),))
        self.assertEqual(choke_points(plan, (), 0), (("space", 1), ("door", 2)))

    def test_different_outsides(self):
        plan = house((1, 1, None, None), ((0, 1), (1, 2), (1, 3)))
        self.assertEqual(choke_points(plan, (), 0), way(0, 1))

    def test_outside_is_no_choke_point(self):
        self.assertEqual(choke_points(house((1, None), ((0, 1), (0, 1))), (), 0), ())

    def test_ways_in_a_circle(self):
        self.assertEqual(choke_points(circle(), (), 0), (("space", 2), ("door", 4)))
        self.assertEqual(choke_points(circle(), (), 2), (("door", 4),))

    def test_outside_and_no_way(self):
        plan = house((1, None, 1), ((0, 2),))
        self.assertEqual(choke_points(plan, (), 1), ())
        self.assertIsNone(choke_points(plan, (), 0))

    def test_measures(self):
        plan = house((1, None), ((0, 1), (0, 1, 0)))
        self.assertEqual(choke_points(plan, (), 0), (("door", 0),))
        self.assertEqual(choke_points(plan, (0,), 0), ())

    def test_dead_ends_are_no_choke_points(self):
        plan = house((1, 1, None), ((0, 1), (0, 2)))
        self.assertEqual(choke_points(plan, (), 0), (("door", 1),))
        self.assertEqual(choke_points(plan, (), 1), (("door", 0), ("space", 0), ("door", 1)))


class CommonPathTest(unittest.TestCase):
    def test_last_choke_point_is_a_door(self):
        self.assertEqual(common_path(example(), (), 0), 15)
        self.assertEqual(common_path(example(), (), 1), 5)
        plan = house((1, 10, 100, 100, None), ((0, 1), (1, 2), (1, 3), (2, 4), (3, 4)))
        self.assertEqual(common_path(plan, (), 0), 11)

    def test_door_at_the_end_comes_ahead_of_its_space(self):
        plan = house((1, 10, None, None), ((0, 1), (1, 2), (1, 3)))
        self.assertEqual(common_path(plan, (), 0), 11)
        plan = house((1, 10, None), ((0, 1), (1, 2)))
        self.assertEqual(common_path(plan, (), 1), 10)

    def test_last_choke_point_is_a_space(self):
        plan = house((1, 10, None), ((0, 1), (0, 1), (1, 2), (1, 2)))
        self.assertEqual(common_path(plan, (), 0), 11)

    def test_spaces_on_the_route_that_are_no_choke_points_count(self):
        self.assertEqual(common_path(circle(), (), 0), 111)
        self.assertEqual(common_path(circle(), (), 3), 1100)

    def test_without_choke_points(self):
        plan = house((7, 5, None), ((0, 1), (1, 2), (0, 2)))
        self.assertEqual(common_path(plan, (), 0), 7)

    def test_outside_and_no_way(self):
        plan = house((7, None, 5), ((0, 2),))
        self.assertEqual(common_path(plan, (), 1), 0)
        self.assertIsNone(common_path(plan, (), 0))

    def test_measures(self):
        self.assertEqual(common_path(example(), (0,), 0), 10)


class TwoWaysTest(unittest.TestCase):
    def assert_two_ways(self, plan, measures, space, outsides):
        told, first, second = two_ways(plan, measures, space)
        self.assertEqual(told, "ways")
        for passed in (first, second):
            doors = tuple(number for kind, number in passed if kind == "door")
            self.assertIsNotNone(way_length(plan, measures, space, doors))
            spaces = [number for kind, number in passed if kind == "space"]
            self.assertEqual(passed, way(*[number for pair in zip(doors, spaces) for number in pair]))
            self.assertEqual(len(set(spaces + [space])), len(spaces) + 1)
        shared = [element for element in first if element in second]
        self.assertEqual([element for element in shared if element not in outsides], [])

    def test_from_an_outside(self):
        plan = house((None, 1), ((0, 1),))
        self.assertEqual(two_ways(plan, (), 0), ("ways", (), ()))

    def test_through(self):
        self.assertEqual(two_ways(example(), (), 0), ("through", ("door", 0)))
        self.assertEqual(two_ways(example(), (), 1), ("through", ("door", 1)))
        self.assertEqual(two_ways(circle(), (), 0), ("through", ("space", 2)))

    def test_none(self):
        plan = house((1, 1, None, 1), ((0, 1), (0, 1), (1, 3)))
        self.assertEqual(two_ways(plan, (), 0), ("none",))
        self.assertEqual(two_ways(house((1,), ()), (), 0), ("none",))

    def test_measures(self):
        plan = example()
        told, first, second = two_ways(plan, (0,), 0)
        self.assertEqual((told, sorted((first, second))), ("ways", [way(0, 1, 1, 2), way(2, 2)]))
        self.assert_two_ways(plan, (0,), 1, (("space", 2),))

    def test_two_doors_to_the_same_outside(self):
        told, first, second = two_ways(house((1, None), ((0, 1), (1, 0))), (), 0)
        self.assertEqual((told, sorted((first, second))), ("ways", [way(0, 1), way(1, 1)]))

    def test_two_spaces_between_and_the_same_outside(self):
        plan = house((1, 1, 1, None), ((0, 1), (0, 2), (1, 3), (2, 3)))
        self.assert_two_ways(plan, (), 0, (("space", 3),))

    def test_different_outsides(self):
        plan = house((1, 1, None, None), ((0, 1), (0, 2), (1, 3)))
        self.assert_two_ways(plan, (), 0, (("space", 2), ("space", 3)))

    def test_the_shortest_way_has_to_be_given_up(self):
        # The shortest way is 0, 1, 4, out; it blocks both 0, 1, 3, out and 0, 2, 4, out.
        plan = house((1, 1, 9, 9, 1, None), ((0, 1), (1, 4), (4, 5), (0, 2), (2, 4), (1, 3), (3, 5)))
        self.assertEqual(route(plan, (), 0), way(0, 1, 1, 4, 2, 5))
        told, first, second = two_ways(plan, (), 0)
        expected = [way(0, 1, 5, 3, 6, 5), way(3, 2, 4, 4, 2, 5)]
        self.assertEqual((told, sorted((first, second))), ("ways", expected))

    def test_the_shortest_way_passes_both_others(self):
        # Here the shortest way goes against the direction that a numbering would suggest.
        rows = ((0, 1), (1, 2), (2, 6), (0, 3), (3, 4), (4, 6), (1, 4), (3, 5), (5, 2))
        for lengths in ((1, 1, 1, 1, 1, 1, None), (1, 1, 9, 9, 1, 1, None), (1, 9, 1, 1, 9, 1, None)):
            self.assert_two_ways(house(lengths, rows), (), 0, (("space", 6),))

    def test_two_first_doors_that_lead_to_one_choke_point(self):
        plan = house((1, 1, 1, 1, None), ((0, 1), (0, 2), (1, 3), (2, 3), (3, 4), (3, 4)))
        self.assertEqual(two_ways(plan, (), 0), ("through", ("space", 3)))


class DetourTest(unittest.TestCase):
    def test_around_a_door_and_around_a_space(self):
        plan = house((1, 10, 100, None), ((0, 1), (1, 3), (0, 2), (2, 3)))
        around = ("way", way(2, 2, 3, 3), 101)
        self.assertEqual(detour(plan, (), 0, ("door", 0)), around)
        self.assertEqual(detour(plan, (), 0, ("door", 1)), around)
        self.assertEqual(detour(plan, (), 0, ("space", 1)), around)

    def test_around_what_the_route_does_not_pass(self):
        plan = house((1, 10, 100, None), ((0, 1), (1, 3), (0, 2), (2, 3)))
        for element in (("door", 2), ("door", 3), ("space", 2)):
            self.assertEqual(detour(plan, (), 0, element), ("way", way(0, 1, 1, 3), 11))

    def test_shortest_detour(self):
        plan = house((1, 1, 5, 4, None), ((0, 1), (1, 4), (0, 2), (2, 4), (0, 3), (3, 4)))
        self.assertEqual(detour(plan, (), 0, ("space", 1)), ("way", way(4, 3, 5, 4), 5))

    def test_detour_through_another_door_of_the_same_two_spaces(self):
        plan = house((1, 2, None), ((0, 1), (0, 1), (1, 2)))
        self.assertEqual(detour(plan, (), 0, ("door", 0)), ("way", way(1, 1, 2, 2), 3))
        self.assertIsNone(detour(plan, (), 0, ("space", 1)))

    def test_no_detour(self):
        plan = example()
        for element in (("door", 0), ("door", 1), ("space", 1)):
            self.assertIsNone(detour(plan, (), 0, element))
        self.assertIsNone(detour(house((1, 1, None), ((0, 1),)), (), 0, ("door", 0)))

    def test_around_a_door_that_is_not_open(self):
        self.assertEqual(detour(example(), (), 0, ("door", 2)), ("way", way(0, 1, 1, 2), 15))

    def test_measures(self):
        self.assertEqual(detour(example(), (0,), 0, ("space", 1)), ("way", way(2, 2), 10))
        self.assertEqual(detour(example(), (0,), 1, ("door", 1)), ("way", way(0, 0, 2, 2), 15))

    def test_from_an_outside(self):
        self.assertEqual(detour(example(), (), 2, ("door", 1)), ("way", (), 0))
        self.assertEqual(detour(example(), (), 2, ("space", 1)), ("way", (), 0))

    def test_nothing_to_avoid(self):
        plan = house((1, 1, None, None), ((0, 1), (1, 2), (0, 3)))
        for space, element in ((0, 0), (1, 1), (0, 2), (0, 3), (2, 2), (2, 3)):
            with self.subTest((space, element)), self.assertRaises(NothingToAvoid):
                detour(plan, (), space, ("space", element))

    def test_nothing_to_avoid_goes_ahead_of_no_way(self):
        plan = house((1, None), ())
        for element in (("space", 0), ("space", 1)):
            with self.subTest(element), self.assertRaises(NothingToAvoid):
                detour(plan, (), 0, element)

    def test_door_with_the_number_of_the_space(self):
        plan = house((1, None), ((0, 1), (0, 1)))
        self.assertEqual(detour(plan, (), 0, ("door", 0)), ("way", way(1, 1), 1))
        self.assertEqual(detour(plan, (), 0, ("door", 1)), ("way", way(0, 1), 1))

    def test_pairs_that_are_no_element(self):
        for element in (("space", 3), ("door", -1), ("", 0)):
            with self.subTest(element), self.assertRaises(NoSuchElement):
                detour(example(), (), 0, element)


class ArgumentsTest(unittest.TestCase):
    """Point 3: no function modifies its arguments."""

    def test_plans_stay_as_they_were(self):
        plan = example()
        before = dict(vars(plan))
        for measures in ((), (0,)):
            distances(plan, measures)
            for space in range(3):
                way_length(plan, measures, space, (0, 1))
                route(plan, measures, space)
                choke_points(plan, measures, space)
                common_path(plan, measures, space)
                two_ways(plan, measures, space)
                detour(plan, measures, space, ("door", 1))
        self.assertEqual(vars(plan), before)
        self.assertEqual(vars(plan), vars(example()))


if __name__ == "__main__":
    unittest.main()
