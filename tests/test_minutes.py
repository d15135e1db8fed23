"""Points 41 to 49: rates, walks, courses, cut times, the most persons outside, clearings, helpful doors."""

import unittest

from allout.errors import HouseError, TooManyMinutes
from allout.minutes import (
    clear_by, course_fault, cut_worth, earliest, helpful, out_by, outside_by, rate, walk)
from allout.plans import Plan, values_of
from crowds import ONE, OUT, everybody, hall, is_possible, so_many_outside, wider, worth_of_cut
from houses import FULL, NONE, door, example, house, space

AREAS = (1, 10, 5, 30, 20)


def values_with_width(plan, number, width):
    of_spaces, of_doors = values_of(plan)
    rows = list(of_doors)
    rows[number] = (width,) + rows[number][1:]
    return (of_spaces, tuple(rows))


class RateTest(unittest.TestCase):
    def test_widths(self):
        plan = hall(((1, 1), OUT), ((0, 1, 0),))
        expected = {0: 0, 1: 0, 19: 0, 20: 1, 21: 1, 39: 1, 40: 2, 59: 2, 60: 3, 999: 49, 1000: 50}
        for width, so_many in expected.items():
            self.assertEqual(rate(values_with_width(plan, 0, width), 0), so_many, width)

    def test_each_door_has_its_own(self):
        plan = hall(((1, 1), OUT), ((0, 1, 3), (0, 1, 5), (0, 1, 0)))
        self.assertEqual([rate(values_of(plan), number) for number in range(3)], [3, 5, 0])

    def test_width_alone_counts(self):
        plan = Plan((space(), space(1, "outside")), (door(0, 1, None, (40, 200, 900)),), (), NONE)
        self.assertEqual(rate(values_of(plan), 0), 2)
        self.assertEqual(rate((((900, 0, 0), NONE), ((20, 0, 0),)), 0), 1)

    def test_values_above_the_greatest(self):
        self.assertEqual(rate(((), ((20040, 0, 0),)), 0), 1002)


class WalkTest(unittest.TestCase):
    def test_lengths(self):
        lengths = {1: 1, 2: 1, 29: 1, 30: 1, 31: 2, 59: 2, 60: 2, 61: 3, 990: 33, 991: 34, 1000: 34}
        for length, minutes in lengths.items():
            self.assertEqual(walk(house((length,), ()), 0), minutes, length)

    def test_each_space_has_its_own(self):
        plan = house((31, None, 1000), ())
        self.assertEqual([walk(plan, number) for number in range(3)], [2, 1, 34])


class CourseFaultTest(unittest.TestCase):
    """Room 0 has 5 persons, at its doors from 1 on, room 1 has 4, at its doors from 2 on."""

    GOOD = ((1, 0, 0, 2), (2, 1, 1, 2), (3, 1, 1, 1))

    def setUp(self):
        rooms = ((5, 30), (4, 31), OUT, OUT)
        self.plan = hall(rooms, ((0, 1, 3), (1, 2, 2), (0, 2, 4, 4, 0), (2, 3, 5)), 2)
        self.values = values_of(self.plan)

    def fault(self, *rows, measures=()):
        found = course_fault(self.plan, measures, ONE, self.values, rows)
        self.assertEqual(found is None, is_possible(self.plan, measures, ONE, self.values, rows))
        return found

    def check_row(self, row, measures=()):
        """The row is a fault as the first one, behind others, and ahead of others."""
        self.assertEqual(self.fault(row, measures=measures), 0)
        before = tuple(good for good in self.GOOD if good[:3] < row[:3])
        behind = tuple(good for good in self.GOOD if good[:3] > row[:3])
        self.assertEqual(self.fault(*before, row, *behind, measures=measures), len(before))
        # A fault ahead of it is told instead of it.
        self.assertEqual(self.fault((0, 1, 2, 1), row, measures=measures), 0)

    def test_possible_courses(self):
        self.assertIsNone(self.fault())
        self.assertIsNone(self.fault(*self.GOOD))
        self.assertIsNone(self.fault((1, 0, 0, 3), (2, 0, 1, 1), (2, 1, 1, 2), (3, 0, 0, 2)))
        self.assertIsNone(self.fault((1, 2, 0, 4), (5, 2, 0, 1), measures=(0,)))
        self.assertIsNone(self.fault((1000, 0, 0, 3), (1001, 0, 0, 2)))

    def test_door_that_is_not_open(self):
        self.check_row((1, 2, 0, 1))
        self.check_row((4, 2, 0, 1))
        self.check_row((2, 2, 0, 1), measures=(1,))
        self.assertIsNone(self.fault((1, 2, 0, 1), measures=(0,)))
        self.assertIsNone(self.fault((1, 2, 0, 1), measures=(0, 1)))

    def test_door_not_at_the_space(self):
        self.check_row((2, 1, 0, 1))
        self.check_row((5, 0, 2, 1))
        self.check_row((3, 2, 1, 1), measures=(0,))

    def test_outside_as_the_space(self):
        self.check_row((2, 1, 2, 1))
        self.check_row((2, 3, 2, 1))
        self.check_row((2, 3, 3, 1))
        # Nobody comes back, not even those who are outside by then.
        self.assertEqual(self.fault((2, 1, 1, 2), (4, 1, 2, 1)), 1)

    def test_rows_that_are_not_ascending(self):
        one, two, three = (2, 0, 0, 1), (2, 0, 1, 1), (2, 1, 1, 1)
        self.assertIsNone(self.fault(one, two, three))
        self.assertEqual(self.fault(two, one, three), 1)
        self.assertEqual(self.fault(one, three, two), 2)
        self.assertEqual(self.fault(three, one, two), 1)
        self.assertEqual(self.fault((3, 0, 0, 1), one), 1)
        self.assertEqual(self.fault((3, 0, 0, 1), (2, 1, 1, 1), (4, 0, 0, 1)), 1)

    def test_row_that_stands_twice(self):
        self.assertEqual(self.fault((2, 0, 0, 1), (2, 0, 0, 1)), 1)
        self.assertEqual(self.fault((2, 0, 0, 1), (2, 0, 0, 2)), 1)
        self.assertEqual(self.fault((2, 0, 0, 2), (2, 0, 0, 1)), 1)
        self.assertEqual(self.fault((1, 0, 0, 1), (2, 0, 0, 1), (2, 0, 0, 2), (2, 0, 0, 3)), 2)
        self.assertIsNone(self.fault((2, 0, 0, 1), (2, 0, 1, 1)))

    def test_less_than_one_person(self):
        for many in (0, -1, -5):
            self.check_row((2, 1, 1, many))
            self.check_row((4, 0, 0, many))

    def test_minute_below_0(self):
        self.check_row((-1, 0, 0, 1))
        self.check_row((-1, 1, 1, 1))
        self.assertEqual(self.fault((-2, 0, 0, 1), (-1, 0, 0, 1), (1, 0, 0, 1)), 0)

    def test_door_that_is_too_narrow(self):
        self.check_row((5, 0, 0, 4))
        self.check_row((5, 1, 1, 3))
        self.assertIsNone(self.fault((5, 0, 0, 3)))
        self.assertIsNone(self.fault((5, 1, 1, 2)))

    def test_door_that_is_too_narrow_for_both_directions_together(self):
        self.assertIsNone(self.fault((2, 0, 0, 2), (2, 0, 1, 1)))
        self.assertIsNone(self.fault((2, 0, 0, 1), (2, 0, 1, 2)))
        self.assertEqual(self.fault((2, 0, 0, 2), (2, 0, 1, 2)), 1)
        self.assertEqual(self.fault((2, 0, 0, 3), (2, 0, 1, 1)), 1)
        self.assertEqual(self.fault((1, 0, 0, 3), (2, 0, 0, 1), (2, 0, 1, 3)), 2)
        # Other minutes and other doors have room of their own.
        self.assertIsNone(self.fault((2, 0, 0, 3), (3, 0, 1, 3)))

    def test_door_without_width(self):
        plan = hall(((5, 1), OUT), ((0, 1, 0),))
        self.assertEqual(course_fault(plan, (), ONE, values_of(plan), ((1, 0, 0, 1),)), 0)
        values = values_with_width(plan, 0, 20)
        self.assertIsNone(course_fault(plan, (), ONE, values, ((1, 0, 0, 1),)))
        self.assertEqual(course_fault(plan, (), ONE, values, ((1, 0, 0, 2),)), 0)

    def test_those_who_have_not_walked_to_the_doors_yet(self):
        self.check_row((0, 0, 0, 1))
        self.check_row((1, 1, 1, 1))
        self.assertIsNone(self.fault((1, 0, 0, 1)))
        self.assertIsNone(self.fault((2, 1, 1, 1)))

    def test_those_who_left_already(self):
        self.assertIsNone(self.fault((1, 0, 0, 3), (2, 0, 0, 2)))
        self.assertEqual(self.fault((1, 0, 0, 3), (2, 0, 0, 3)), 1)
        self.assertEqual(self.fault((1, 0, 0, 3), (2, 0, 0, 2), (9, 0, 0, 1)), 2)
        # Those who leave through another door in the same minute are gone, too.
        self.assertIsNone(self.fault((1, 0, 0, 1), (1, 2, 0, 4), measures=(0,)))
        self.assertEqual(self.fault((1, 0, 0, 2), (1, 2, 0, 4), measures=(0,)), 1)

    def test_those_who_have_come_meanwhile(self):
        left = ((2, 1, 1, 2), (3, 1, 1, 2))
        self.assertEqual(self.fault(*left, (4, 1, 1, 1)), 2)
        # Who passes in minute 1 is in room 1 at 2 and at its doors from 4 on.
        self.assertEqual(self.fault((1, 0, 0, 1), *left, (3, 1, 1, 2)), 3)
        self.assertIsNone(self.fault((1, 0, 0, 1), *left, (4, 1, 1, 1)))
        self.assertEqual(self.fault((1, 0, 0, 1), *left, (4, 1, 1, 2)), 3)
        self.assertEqual(self.fault((1, 0, 0, 1), (2, 0, 0, 1), *left, (4, 1, 1, 2)), 4)
        self.assertIsNone(self.fault((1, 0, 0, 1), (2, 0, 0, 1), *left, (5, 1, 1, 2)))

    def test_those_who_go_to_and_fro(self):
        rows = ((2, 0, 1, 3), (4, 0, 0, 3))
        self.assertIsNone(self.fault(*rows, (5, 0, 0, 3)))
        self.assertEqual(self.fault(*rows, (5, 0, 0, 3), (6, 0, 0, 3)), 3)
        # Of the 8 persons of room 0 3 are in room 1 again, at its doors from 7 on.
        self.assertIsNone(self.fault(*rows, (6, 1, 1, 1), (7, 1, 1, 2), (8, 1, 1, 1)))
        self.assertEqual(self.fault(*rows, (5, 1, 1, 1), (6, 1, 1, 1)), 3)

    def test_areas_make_the_persons(self):
        plan = example()
        rows = ((1, 0, 0, 4), (2, 0, 0, 4), (3, 0, 0, 2))
        self.assertIsNone(course_fault(plan, (), AREAS, values_of(plan), rows))
        self.assertEqual(course_fault(plan, (), (1, 11, 5, 30, 20), values_of(plan), rows + ((4, 0, 0, 1),)), 3)
        self.assertEqual(course_fault(plan, (), (1, 12, 5, 30, 20), values_of(plan), rows), 2)

    def test_given_values_and_not_those_of_the_plan(self):
        values = values_with_width(self.plan, 0, 19)
        self.assertEqual(course_fault(self.plan, (), ONE, values, ((1, 0, 0, 1),)), 0)
        values = values_with_width(self.plan, 0, 100)
        self.assertIsNone(course_fault(self.plan, (), ONE, values, ((1, 0, 0, 5),)))


class OutsideByTest(unittest.TestCase):
    def setUp(self):
        self.plan = hall(((9, 1), (9, 1), OUT, OUT), ((0, 1, 5), (1, 2, 5), (3, 0, 5)))
        self.course = ((1, 0, 0, 1), (1, 1, 1, 2), (1, 2, 0, 4), (3, 1, 1, 1), (7, 2, 0, 3))

    def test_rows_of_lesser_minutes_alone_count(self):
        expected = {0: 0, 1: 0, 2: 6, 3: 6, 4: 7, 5: 7, 7: 7, 8: 10, 9: 10, 1000: 10}
        for minute, many in expected.items():
            self.assertEqual(outside_by(self.plan, self.course, minute), many, minute)

    def test_rows_into_outsides_alone_count(self):
        self.assertEqual(outside_by(self.plan, ((1, 0, 0, 3), (1, 0, 1, 2)), 40), 0)

    def test_no_rows(self):
        self.assertEqual(outside_by(self.plan, (), 40), 0)


class CutWorthTest(unittest.TestCase):
    """Room 0 with 5 persons and the walk 1, room 1 with 7 and the walk 2, then an outside."""

    def setUp(self):
        self.plan = hall(((5, 1), (7, 31), OUT), ((0, 1, 3), (1, 2, 2), (2, 0, 4, 4, 0)), 1)

    def worth(self, minute, *cut, measures=(), plan=None):
        plan = self.plan if plan is None else plan
        return cut_worth(plan, measures, ONE, values_of(plan), minute, cut)

    def test_persons_whose_walk_is_below_the_cut_time(self):
        self.assertEqual(self.worth(9, 1, 9, 0), 7 + 3 * (9 - 1 - 2 - 1))
        self.assertEqual(self.worth(9, 2, 9, 0), 5 + 7 + 3 * (9 - 1 - 2 - 2))
        self.assertEqual(self.worth(9, 9, 2, 0), 5 + 3 * (9 - 1 - 1 - 2) + 2 * 7)
        self.assertEqual(self.worth(9, 9, 3, 0), 5 + 7 + 3 * (9 - 1 - 1 - 3) + 2 * 6)

    def test_persons_whose_walk_is_below_the_minute(self):
        self.assertEqual(self.worth(0, 0, 0, 0), 0)
        self.assertEqual(self.worth(1, 1, 1, 0), 0)
        self.assertEqual(self.worth(2, 2, 2, 0), 5)
        self.assertEqual(self.worth(3, 3, 3, 0), 12)
        # Nobody counts who cannot be at the doors in time, whatever the cut times are.
        plan = hall(((5, 1), (7, 31)), ())
        for minute, worth in ((0, 0), (1, 0), (2, 5), (3, 12)):
            self.assertEqual(self.worth(minute, 9, 9, plan=plan), worth)

    def test_doors_to_the_outside(self):
        self.assertEqual(self.worth(9, 9, 0, 0), 5 + 3 * 7 + 2 * 9)
        self.assertEqual(self.worth(9, 0, 9, 0), 7 + 3 * 6)
        self.assertEqual(self.worth(9, 0, 9, 0, measures=(0,)), 7 + 3 * 6 + 4 * 9)

    def test_doors_inside(self):
        for early, late, worth in ((0, 2, 0), (0, 3, 0), (0, 4, 3), (0, 9, 18), (4, 9, 6), (6, 9, 0), (7, 9, 0)):
            persons = 5 * (early > 1) + 7 * (late > 2)
            self.assertEqual(self.worth(20, early, late, 0), persons + worth + 2 * (20 - late))
        # From room 1 into room 0, whose walk is 1.
        for early, late, worth in ((0, 2, 0), (0, 3, 3), (0, 9, 21), (4, 9, 9), (7, 9, 0)):
            persons = 5 * (late > 1) + 7 * (early > 2)
            self.assertEqual(self.worth(20, late, early, 0), persons + worth + 2 * (20 - early))

    def test_cut_time_of_an_outside_counts_for_nothing(self):
        for cut in range(10):
            self.assertEqual(self.worth(9, 4, 3, cut, measures=(0,)), self.worth(9, 4, 3, 0, measures=(0,)))

    def test_persons_of_an_outside_and_doors_between_outsides(self):
        plan = hall((OUT, OUT, (0, 1)), ((0, 1, 5),))
        self.assertEqual(self.worth(9, 9, 9, 9, plan=plan), 0)
        self.assertEqual(self.worth(9, 0, 0, 0, plan=plan), 0)

    def test_doors_side_by_side(self):
        plan = hall(((5, 1), OUT), ((0, 1, 3), (1, 0, 2), (0, 1, 0)))
        self.assertEqual(self.worth(4, 1, 0, plan=plan), 15)

    def test_values_areas_and_measures_that_are_given(self):
        plan = example()
        self.assertEqual(cut_worth(plan, (), AREAS, values_of(plan), 5, (5, 5, 0)), 12)
        self.assertEqual(cut_worth(plan, (), (1, 20, 5, 30, 20), values_of(plan), 5, (5, 5, 0)), 6)
        self.assertEqual(cut_worth(plan, (0,), AREAS, values_of(plan), 5, (0, 5, 0)), 2 + 4 * 3 + 3 * 5)
        values = values_with_width(plan, 2, 100)
        self.assertEqual(cut_worth(plan, (0,), AREAS, values, 5, (0, 5, 0)), 2 + 4 * 3 + 5 * 5)


class MostTest(unittest.TestCase):
    """What out_by tells, checked by its course and its cut times."""

    def most(self, plan, minute, measures=(), areas=ONE, values=None):
        values = values_of(plan) if values is None else values
        told = out_by(plan, measures, areas, values, minute)
        number, course, cut = told
        self.assertEqual((type(told), type(course), type(cut)), (tuple, tuple, tuple))
        self.assertTrue(is_possible(plan, measures, areas, values, course))
        self.assertIsNone(course_fault(plan, measures, areas, values, course))
        self.assertEqual(so_many_outside(plan, course, minute), number)
        self.assertEqual(len(cut), len(plan.spaces))
        self.assertTrue(all(0 <= time <= minute for time in cut), cut)
        self.assertEqual(worth_of_cut(plan, measures, areas, values, minute, cut), number)
        self.assertEqual(cut_worth(plan, measures, areas, values, minute, cut), number)
        return number

    def test_example(self):
        numbers = [self.most(example(), minute, (), AREAS) for minute in range(9)]
        self.assertEqual(numbers, [0, 0, 2, 2, 6, 10, 12, 12, 12])
        numbers = [self.most(example(), minute, (0,), AREAS) for minute in range(9)]
        self.assertEqual(numbers, [0, 0, 5, 8, 12, 12, 12, 12, 12])

    def test_cut_times_that_are_no_good_ones(self):
        plan = example()
        for cut in ((0, 0, 0), (6, 6, 6), (5, 2, 1), (0, 6, 0), (6, 0, 3)):
            self.assertGreaterEqual(cut_worth(plan, (), AREAS, values_of(plan), 6, cut), 12)
        self.assertGreater(cut_worth(plan, (), AREAS, values_of(plan), 6, (0, 0, 0)), 12)

    def test_minute_0(self):
        plan = hall(((5, 1), OUT), ((0, 1, 3),))
        self.assertEqual(out_by(plan, (), ONE, values_of(plan), 0), (0, (), (0, 0)))

    def test_first_minutes(self):
        plan = hall(((5, 1), OUT), ((0, 1, 3),))
        self.assertEqual([self.most(plan, minute) for minute in range(6)], [0, 0, 3, 5, 5, 5])
        plan = hall(((5, 31), OUT), ((0, 1, 3),))
        self.assertEqual([self.most(plan, minute) for minute in range(6)], [0, 0, 0, 3, 5, 5])

    def test_minute_40(self):
        plan = hall(((1000, 1), OUT), ((0, 1, 3),))
        self.assertEqual(self.most(plan, 40), 3 * 39)
        self.assertEqual(self.most(hall(((1000, 1000), OUT), ((0, 1, 3),)), 40), 3 * 6)

    def test_minute_41_and_above(self):
        plan = hall(((5, 1), OUT), ((0, 1, 3),))
        for minute in (41, 42, 1000):
            with self.assertRaises(TooManyMinutes) as caught:
                out_by(plan, (), ONE, values_of(plan), minute)
            self.assertEqual(caught.exception.count, minute)
            self.assertIsInstance(caught.exception, HouseError)

    def test_no_persons_at_all(self):
        for rooms in (((0, 1), (0, 1), OUT), (OUT,) * 3):
            plan = hall(rooms, ((0, 1, 3), (1, 2, 3)))
            for minute in (0, 1, 20, 40):
                self.assertEqual(self.most(plan, minute), 0)

    def test_no_doors_and_no_outside(self):
        self.assertEqual(self.most(hall(((5, 1), OUT), ()), 40), 0)
        self.assertEqual(self.most(hall(((5, 1), (5, 1)), ((0, 1, 3),)), 40), 0)
        self.assertEqual(self.most(hall((OUT,), ()), 40), 0)

    def test_space_without_a_way(self):
        plan = hall(((5, 1), (7, 1), (9, 1), OUT), ((0, 3, 1), (1, 2, 4), (2, 3, 5, 5, 0)), 1)
        self.assertEqual(self.most(plan, 40), 5)
        self.assertEqual(self.most(plan, 40, (0,)), 21)
        # A door without width is no way out either.
        self.assertEqual(self.most(hall(((5, 1), OUT), ((0, 1, 0),)), 40), 0)

    def test_doors_in_both_directions(self):
        # Persons of room 0 go through room 1 and those of room 1 through room 0, by turns.
        plan = hall(((9, 1), (9, 1), OUT), ((0, 1, 2), (0, 2, 1), (1, 2, 1)))
        self.assertEqual([self.most(plan, minute) for minute in (2, 5, 10, 11)], [2, 8, 18, 18])
        plan = hall(((0, 1), (30, 1), (0, 1), OUT), ((0, 1, 5), (1, 2, 5), (0, 3, 2), (2, 3, 3), (0, 2, 9)))
        self.assertEqual([self.most(plan, minute) for minute in (3, 4, 5, 9, 10)], [0, 5, 10, 30, 30])

    def test_ways_around_narrow_doors(self):
        # The short way lets one person a minute pass, the long one lets more pass later.
        plan = hall(((20, 1), (0, 100), OUT), ((0, 2, 1), (0, 1, 9), (1, 2, 9)))
        self.assertEqual([self.most(plan, minute) for minute in (2, 6, 7, 8, 9)], [1, 5, 15, 20, 20])

    def test_those_who_come_first_leave_room_for_others(self):
        # Room 0 can use both doors of the outside, room 1 only door 2; both are narrow.
        plan = hall(((6, 1), (6, 1), (0, 1), OUT), ((0, 3, 2), (0, 2, 4), (2, 3, 2), (1, 2, 4)))
        self.assertEqual([self.most(plan, minute) for minute in (2, 3, 4, 5, 6, 7)], [2, 4, 8, 10, 12, 12])

    def test_measures_values_and_areas_that_are_given(self):
        plan = hall(((50, 1), OUT), ((0, 1, 1), (0, 1, 2, 2, 0), (0, 1, 4, 4, 1)), 2)
        found = [self.most(plan, 11, measures) for measures in ((), (0,), (1,), (0, 1))]
        self.assertEqual(found, [10, 30, 50, 50])
        self.assertEqual(self.most(plan, 11, values=values_with_width(plan, 0, 79)), 30)
        self.assertEqual(self.most(plan, 11, values=values_with_width(plan, 0, 20000)), 50)
        self.assertEqual(self.most(plan, 11, (0,), (3, 1, 1, 1, 1)), 17)

    def test_room_of_a_hundred_thousand(self):
        plan = hall(((100000, 1), OUT), ((0, 1, 50),) * 12)
        self.assertEqual(self.most(plan, 40), 39 * 600)


class EarliestTest(unittest.TestCase):
    def check_earliest(self, plan, minutes, measures=(), areas=ONE):
        values = values_of(plan)
        course = earliest(plan, measures, areas, values, minutes)
        self.assertIs(type(course), tuple)
        self.assertTrue(is_possible(plan, measures, areas, values, course))
        for minute in range(minutes + 1):
            most = out_by(plan, measures, areas, values, minute)[0]
            self.assertEqual(outside_by(plan, course, minute), most, minute)
        return course

    def test_example(self):
        for minutes in range(12):
            self.check_earliest(example(), minutes, (), AREAS)
            self.check_earliest(example(), minutes, (0,), AREAS)

    def test_only_course(self):
        plan = hall(((5, 1), OUT), ((0, 1, 2),))
        self.assertEqual(self.check_earliest(plan, 40), ((1, 0, 0, 2), (2, 0, 0, 2), (3, 0, 0, 1)))
        self.assertEqual(self.check_earliest(plan, 3), ((1, 0, 0, 2), (2, 0, 0, 2)))

    def test_bounds_of_minutes(self):
        plan = hall(((5, 1), OUT), ((0, 1, 2),))
        self.assertEqual(earliest(plan, (), ONE, values_of(plan), 0), ())
        self.assertEqual(earliest(plan, (), ONE, values_of(plan), 1), ())
        for minutes in (41, 100):
            with self.assertRaises(TooManyMinutes) as caught:
                earliest(plan, (), ONE, values_of(plan), minutes)
            self.assertEqual(caught.exception.count, minutes)

    def test_no_persons_and_no_way(self):
        for plan in (hall(((0, 1), OUT), ((0, 1, 2),)), hall(((4, 1), OUT), ()), hall((OUT,), ())):
            self.assertEqual(outside_by(plan, self.check_earliest(plan, 40), 40), 0)

    def test_short_way_now_and_long_way_later(self):
        plan = hall(((20, 1), (3, 100), (0, 31), OUT), ((0, 3, 1), (0, 1, 9), (1, 3, 4), (0, 2, 3), (2, 3, 2)))
        self.check_earliest(plan, 15)

    def test_persons_who_pass_later_so_that_others_come_first(self):
        plan = hall(((6, 1), (6, 1), (0, 1), OUT), ((0, 3, 2), (0, 2, 4), (2, 3, 2), (1, 2, 4)))
        self.check_earliest(plan, 10)


class ClearingTest(unittest.TestCase):
    def check_clear(self, plan, limit, measures=(), areas=ONE):
        """The minute of the clearing, None for a later one, with all that goes with it."""
        values = values_of(plan)
        told = clear_by(plan, measures, areas, values, limit)
        self.assertIs(type(told), tuple)
        if told[0] == "later":
            self.assertEqual(len(told), 2)
            self.check_cut(plan, measures, areas, limit, told[1])
            return None
        word, minute, course, cut = told
        self.assertEqual(word, "clear")
        self.assertLessEqual(minute, limit)
        self.assertTrue(is_possible(plan, measures, areas, values, course))
        self.assertEqual(so_many_outside(plan, course, minute), everybody(plan, areas))
        if minute == 0:
            self.assertIsNone(cut)
        else:
            self.check_cut(plan, measures, areas, minute - 1, cut)
        return minute

    def check_cut(self, plan, measures, areas, minute, cut):
        self.assertEqual(len(cut), len(plan.spaces))
        self.assertTrue(all(0 <= time <= minute for time in cut), cut)
        self.assertLess(worth_of_cut(plan, measures, areas, values_of(plan), minute, cut), everybody(plan, areas))

    def test_example(self):
        self.assertEqual(self.check_clear(example(), 40, (), AREAS), 6)
        self.assertEqual(self.check_clear(example(), 40, (0,), AREAS), 4)

    def test_limits_around_the_least_minute(self):
        for limit in (6, 7, 20, 40):
            self.assertEqual(self.check_clear(example(), limit, (), AREAS), 6)
        for limit in range(6):
            self.assertIsNone(self.check_clear(example(), limit, (), AREAS))

    def test_no_persons(self):
        plan = hall(((0, 1), OUT), ((0, 1, 2),))
        for limit in (0, 1, 40):
            self.assertEqual(clear_by(plan, (), ONE, values_of(plan), limit), ("clear", 0, (), None))
        self.assertEqual(self.check_clear(hall((OUT,), ()), 0), 0)

    def test_limit_0(self):
        plan = hall(((1, 1), OUT), ((0, 1, 2),))
        self.assertEqual(clear_by(plan, (), ONE, values_of(plan), 0), ("later", (0, 0)))
        self.assertIsNone(self.check_clear(plan, 1))
        self.assertEqual(self.check_clear(plan, 2), 2)

    def test_limit_40(self):
        for many, minute in ((38, 39), (39, 40), (40, None)):
            plan = hall(((many, 1), OUT), ((0, 1, 1),))
            self.assertEqual(self.check_clear(plan, 40), minute)

    def test_limit_above_40(self):
        for rooms in (((1, 1), OUT), ((0, 1), OUT), ((100000, 1), OUT)):
            plan = hall(rooms, ((0, 1, 2),))
            for limit in (41, 50, 400):
                with self.assertRaises(TooManyMinutes) as caught:
                    clear_by(plan, (), ONE, values_of(plan), limit)
                self.assertEqual(caught.exception.count, limit)

    def test_space_without_a_way(self):
        plan = hall(((1, 1), (1, 1), OUT), ((0, 2, 2), (1, 2, 2, 2, 0)), 1)
        self.assertIsNone(self.check_clear(plan, 40))
        self.assertEqual(self.check_clear(plan, 40, (0,)), 2)
        # Nobody is in the space without a way.
        self.assertEqual(self.check_clear(hall(((1, 1), (0, 1), OUT), ((0, 2, 2),)), 40), 2)

    def test_long_walks(self):
        self.assertEqual(self.check_clear(hall(((1, 1000), OUT), ((0, 1, 2),)), 40), 35)
        plan = hall(((1, 100), (1, 1000), OUT), ((0, 1, 1), (1, 2, 1)))
        self.assertEqual(self.check_clear(plan, 40), 40)
        plan = hall(((1, 121), (1, 1000), OUT), ((0, 1, 1), (1, 2, 1)))
        self.assertIsNone(self.check_clear(plan, 40))


class HelpfulTest(unittest.TestCase):
    def check_helpful(self, plan, minute, measures=()):
        told = helpful(plan, measures, ONE, values_of(plan), minute)
        before = out_by(plan, measures, ONE, values_of(plan), minute)[0]
        gains = []
        for number in range(len(plan.doors)):
            gain = out_by(plan, measures, ONE, wider(plan, number), minute)[0] - before
            is_open = plan.doors[number][2] is None or plan.doors[number][2] in measures
            gains += [(number, gain)] if is_open and gain > 0 else []
        self.assertEqual(told, tuple(gains))
        return told

    def test_helpful_doors(self):
        plan = hall(((90, 1), OUT), ((0, 1, 1, 4), (0, 1, 2, 3)))
        self.assertEqual(self.check_helpful(plan, 11), ((0, 30), (1, 10)))

    def test_each_door_alone(self):
        # Both doors of the way are as narrow, so that neither of them helps alone.
        plan = hall(((90, 1), (0, 1), OUT), ((0, 1, 2, 5), (1, 2, 2, 5)))
        self.assertEqual(self.check_helpful(plan, 20), ())
        plan = hall(((90, 1), (0, 1), OUT), ((0, 1, 2, 5), (1, 2, 3, 5)))
        self.assertEqual(self.check_helpful(plan, 23), ((0, 20),))
        plan = hall(((90, 1), (0, 1), OUT), ((0, 1, 4, 5), (1, 2, 3, 5)))
        self.assertEqual(self.check_helpful(plan, 23), ((1, 20),))

    def test_doors_that_do_not_help(self):
        plan = hall(((90, 1), (0, 1), OUT), ((0, 1, 1, 9), (0, 2, 2, 2), (0, 2, 0, 0)))
        self.assertEqual(self.check_helpful(plan, 30), ())
        # All are outside already, or nobody can be.
        plan = hall(((4, 1), OUT), ((0, 1, 2, 5),))
        self.assertEqual(self.check_helpful(plan, 3), ())
        self.assertEqual(self.check_helpful(plan, 1), ())
        self.assertEqual(self.check_helpful(plan, 2), ((0, 2),))

    def test_greatest_width_that_is_the_present_one(self):
        plan = hall(((90, 1), OUT), ((0, 1, 3, 3), (0, 1, 3, 4), (0, 1, 0, 0)))
        self.assertEqual(self.check_helpful(plan, 11), ((1, 10),))

    def test_greatest_width_without_one_person_more(self):
        spaces = (("room", "assembly", 90, 1, 0, NONE, FULL), space(1, "outside"))
        for most, expected in ((59, ()), (60, ((0, 10),))):
            plan = Plan(spaces, (door(0, 1, None, (40, 0, 0), (most, 0, 0)),), (), NONE)
            self.assertEqual(helpful(plan, (), ONE, values_of(plan), 11), expected)

    def test_door_that_opens_a_way(self):
        plan = hall(((7, 1), (7, 1), OUT), ((0, 1, 0, 2), (1, 2, 1, 1), (0, 2, 0, 50)))
        self.assertEqual(self.check_helpful(plan, 11), ((0, 3), (2, 7)))

    def test_open_doors_alone(self):
        plan = hall(((90, 1), OUT), ((0, 1, 1, 2), (0, 1, 0, 4, 0), (0, 1, 1, 2, 1)), 2)
        self.assertEqual(self.check_helpful(plan, 11), ((0, 10),))
        self.assertEqual(self.check_helpful(plan, 11, (0,)), ((0, 10), (1, 40)))
        self.assertEqual(self.check_helpful(plan, 11, (0, 1)), ((0, 10), (1, 40), (2, 10)))

    def test_given_values_and_not_those_of_the_plan(self):
        plan = hall(((90, 1), OUT), ((0, 1, 1, 4),))
        self.assertEqual(helpful(plan, (), ONE, values_with_width(plan, 0, 60), 11), ((0, 10),))
        self.assertEqual(helpful(plan, (), ONE, values_with_width(plan, 0, 80), 11), ())

    def test_bounds_of_minutes(self):
        plan = hall(((900, 1), OUT), ((0, 1, 1, 4),))
        self.assertEqual(self.check_helpful(plan, 0), ())
        self.assertEqual(self.check_helpful(plan, 40), ((0, 117),))
        for minute in (41, 99):
            for rooms, doors in ((((5, 1), OUT), ((0, 1, 1),)), ((OUT,), ())):
                plan = hall(rooms, doors)
                with self.assertRaises(TooManyMinutes) as caught:
                    helpful(plan, (), ONE, values_of(plan), minute)
                self.assertEqual(caught.exception.count, minute)


if __name__ == "__main__":
    unittest.main()
