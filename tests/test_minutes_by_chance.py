"""Points 41 to 49 on many plans, against what the document says, and on the greatest plans."""

import random
import time
import unittest

from allout.minutes import clear_by, course_fault, cut_worth, earliest, helpful, out_by, outside_by
from allout.plans import values_of
from crowds import (
    ONE, crossed_hall, everybody, first_fault, greatest_halls, hall, is_open, is_possible, other, persons_of,
    so_many_outside, some_hall, walk_of, wider, worth_of_cut)

MANY = 150
# Far more than is needed, so that only an answer of another order of time is noticed.
SECONDS = 20


def some_course(source, plan, minutes):
    """Rows by chance, most of them as the document wants them."""
    rows = {}
    for _ in range(source.randint(0, 8)):
        door = source.randrange(len(plan.doors))
        space = source.choice(plan.doors[door][:2])
        rows[source.randint(1, minutes), door, space] = source.choice((1, 1, 1, 2, 3))
    return tuple(sorted(key + (many,) for key, many in rows.items()))


def damaged(source, course):
    """A course with one change of a row or of the order of rows."""
    rows = list(course)
    at = source.randrange(len(rows))
    column = source.choice((0, 3, 3))
    change = source.choice(("number", "number", "again", "exchange"))
    if change == "number":
        row = list(rows[at])
        row[column] += source.choice((-1, 1, 1, 5))
        rows[at] = tuple(row)
    elif change == "again":
        rows.insert(at, rows[at])
    else:
        to = source.randrange(len(rows))
        rows[at], rows[to] = rows[to], rows[at]
    return tuple(rows)


def most_by_search(plan, minutes):
    """The most persons outside by a minute, by all courses there are; for small plans alone."""
    spaces = range(len(plan.spaces))
    values = values_of(plan)
    passages = []
    for door, (one, two, _, _, _) in enumerate(plan.doors):
        passages += [(door, here) for here in (one, two) if plan.spaces[here][0] != "outside"]
    known = {}

    def choices(minute, at, ready, room, coming):
        """The most outside behind this minute, if the passages from this one on are still to be used."""
        if at == len(passages):
            return behind(minute + 1, ready, coming)
        door, here = passages[at]
        there = other(plan, door, here)
        best = 0
        for many in range(min(ready[here], room[door]) + 1):
            left = ready[:here] + (ready[here] - many,) + ready[here + 1:]
            less = room[:door] + (room[door] - many,) + room[door + 1:]
            if plan.spaces[there][0] == "outside":
                best = max(best, many + choices(minute, at + 1, left, less, coming))
            else:
                further = coming + ((minute + 1 + walk_of(plan, there), there),) * many
                best = max(best, choices(minute, at + 1, left, less, further))
        return best

    def behind(minute, ready, coming):
        if minute >= minutes:
            return 0
        ready = tuple(ready[at] + coming.count((minute, at)) for at in spaces)
        coming = tuple(sorted(row for row in coming if row[0] > minute))
        key = (minute, ready, coming)
        if key not in known:
            room = tuple(row[0] // 20 for row in values[1])
            known[key] = choices(minute, 0, ready, room, coming)
        return known[key]

    begin = []
    for at, many in enumerate(persons_of(plan, ONE)):
        begin += [(walk_of(plan, at), at)] * many
    return behind(0, (0,) * len(plan.spaces), tuple(begin))


class CourseTest(unittest.TestCase):
    def test_faults_and_persons_outside(self):
        source = random.Random(42)
        faults = {True: 0, False: 0}
        for _ in range(MANY * 8):
            plan = some_hall(source, (1, 2, 3), (0, 3, 9), (1, 30, 31))
            measures = source.choice(((), (0,), (0, 1)))
            values = values_of(plan)
            course = some_course(source, plan, 8)
            expected = first_fault(plan, measures, ONE, values, course)
            self.assertEqual(course_fault(plan, measures, ONE, values, course), expected)
            faults[expected is None] += 1
            minute = source.randint(0, 10)
            self.assertEqual(outside_by(plan, course, minute), so_many_outside(plan, course, minute))
        self.assertGreater(min(faults.values()), MANY // 5, faults)

    def test_damaged_courses(self):
        source = random.Random(43)
        faults = {True: 0, False: 0}
        for _ in range(MANY * 4):
            plan = some_hall(source, (1, 2, 3))
            values = values_of(plan)
            course = out_by(plan, (0,), ONE, values, 12)[1]
            if not course:
                continue
            course = damaged(source, course)
            expected = first_fault(plan, (0,), ONE, values, course)
            self.assertEqual(course_fault(plan, (0,), ONE, values, course), expected)
            faults[expected is None] += 1
        self.assertGreater(min(faults.values()), MANY // 5, faults)


class MinutesTest(unittest.TestCase):
    def cases(self, seed):
        source = random.Random(seed)
        for _ in range(MANY):
            yield source, some_hall(source), source.choice(((), (0,), (1,), (0, 1)))

    def check_most(self, plan, measures, values, minute):
        number, course, cut = out_by(plan, measures, ONE, values, minute)
        self.assertTrue(is_possible(plan, measures, ONE, values, course))
        self.assertEqual(so_many_outside(plan, course, minute), number)
        self.assertEqual(worth_of_cut(plan, measures, ONE, values, minute, cut), number)
        self.assertTrue(all(0 <= at <= minute for at in cut))
        return number

    def test_most_persons_outside(self):
        for source, plan, measures in self.cases(46):
            for minute in (source.randint(0, 12), source.randint(0, 40)):
                self.check_most(plan, measures, values_of(plan), minute)

    def test_persons_who_make_room_for_others(self):
        # With these plans the last persons get outside only if others go elsewhere or later.
        for seed in (161, 184, 210, 211, 320, 345, 423, 488, 493, 2326, 8037, 12333):
            plan = crossed_hall(random.Random(seed))
            course = earliest(plan, (), ONE, values_of(plan), 25)
            self.assertTrue(is_possible(plan, (), ONE, values_of(plan), course))
            for minute in range(26):
                most = self.check_most(plan, (), values_of(plan), minute)
                self.assertEqual(so_many_outside(plan, course, minute), most)

    def test_most_persons_outside_by_search(self):
        source = random.Random(47)
        numbers = []
        for _ in range(MANY * 2):
            plan = some_hall(source, (0, 1, 1, 2), (0, 1, 2, 3), (1, 1, 31))
            if len(plan.spaces) > 5 or len(plan.doors) > 5 or everybody(plan) > 5:
                continue
            plan = hall([None if row[0] == "outside" else row[2:4] for row in plan.spaces],
                        [(row[0], row[1], row[3][0] // 20) for row in plan.doors])
            for minute in range(8):
                numbers.append(most_by_search(plan, minute))
                self.assertEqual(self.check_most(plan, (), values_of(plan), minute), numbers[-1])
        self.assertGreater(sum(number > 0 for number in numbers), MANY)

    def test_worth_of_any_cut_times(self):
        for source, plan, measures in self.cases(45):
            minute = source.randint(0, 20)
            most = out_by(plan, measures, ONE, values_of(plan), minute)[0]
            for _ in range(20):
                cut = tuple(source.randint(0, minute) for _ in plan.spaces)
                worth = cut_worth(plan, measures, ONE, values_of(plan), minute, cut)
                self.assertEqual(worth, worth_of_cut(plan, measures, ONE, values_of(plan), minute, cut))
                self.assertLessEqual(most, worth)

    def test_earliest_courses(self):
        for source, plan, measures in self.cases(48):
            minutes = source.choice((5, 12, 25))
            course = earliest(plan, measures, ONE, values_of(plan), minutes)
            self.assertTrue(is_possible(plan, measures, ONE, values_of(plan), course))
            for minute in range(minutes + 1):
                most = out_by(plan, measures, ONE, values_of(plan), minute)[0]
                self.assertEqual(so_many_outside(plan, course, minute), most)

    def test_clearings(self):
        words = {"clear": 0, "later": 0}
        for source, plan, measures in self.cases(49):
            limit = source.choice((3, 10, 40))
            told = clear_by(plan, measures, ONE, values_of(plan), limit)
            words[told[0]] += 1
            if told[0] == "clear":
                _, minute, course, cut = told
                self.assertTrue(is_possible(plan, measures, ONE, values_of(plan), course))
                self.assertEqual(so_many_outside(plan, course, minute), everybody(plan))
                self.assertEqual(cut is None, minute == 0)
                limit = minute - 1
            if told[-1] is not None:
                self.assertTrue(all(0 <= at <= limit for at in told[-1]))
                self.assertLess(worth_of_cut(plan, measures, ONE, values_of(plan), limit, told[-1]), everybody(plan))
        self.assertGreater(min(words.values()), MANY // 10, words)

    def test_helpful_doors(self):
        found = 0
        for source, plan, measures in self.cases(50):
            minute = source.randint(0, 15)
            before = out_by(plan, measures, ONE, values_of(plan), minute)[0]
            gains = []
            for door in range(len(plan.doors)):
                if is_open(plan, measures, door):
                    gain = out_by(plan, measures, ONE, wider(plan, door), minute)[0] - before
                    gains += [(door, gain)] if gain > 0 else []
            self.assertEqual(helpful(plan, measures, ONE, values_of(plan), minute), tuple(gains))
            found += gains != []
        self.assertGreater(found, MANY // 10)


class GreatestPlansTest(unittest.TestCase):
    def test_answers_are_right_and_come_soon(self):
        source = random.Random(51)
        taken = 0
        for plan in greatest_halls(source):
            self.assertEqual((len(plan.spaces), len(plan.doors)), (8, 12))
            values = values_of(plan)
            for measures in ((), (0, 1, 2)):
                begin = time.monotonic()
                number, course, cut = out_by(plan, measures, ONE, values, 40)
                best = earliest(plan, measures, ONE, values, 40)
                told = clear_by(plan, measures, ONE, values, 40)
                gains = helpful(plan, measures, ONE, values, 40)
                self.assertIsNone(course_fault(plan, measures, ONE, values, course))
                taken += time.monotonic() - begin
                self.assertEqual(worth_of_cut(plan, measures, ONE, values, 40, cut), number)
                self.assertEqual(so_many_outside(plan, course, 40), number)
                self.assertEqual(so_many_outside(plan, best, 40), number)
                self.assertIsNone(course_fault(plan, measures, ONE, values, best))
                self.assertEqual(told[0], "clear" if number == everybody(plan) else "later")
                self.assertTrue(all(gain > 0 for _, gain in gains))
        self.assertLess(taken, SECONDS)

    def test_long_courses(self):
        # As many rows as there can be in forty minutes, forth and back through all doors.
        plan = hall([(100000, 1)] * 8, [(at, at + 1, 2) for at in range(7)] + [(0, 7, 2)] * 5)
        rows = []
        for minute in range(1, 40):
            for door, (one, two, _, _, _) in enumerate(plan.doors):
                rows += [(minute, door, min(one, two), 1), (minute, door, max(one, two), 1)]
        begin = time.monotonic()
        self.assertIsNone(course_fault(plan, (), ONE, values_of(plan), tuple(rows)))
        rows.append((39, 11, 7, 1))
        self.assertEqual(course_fault(plan, (), ONE, values_of(plan), tuple(rows)), len(rows) - 1)
        self.assertLess(time.monotonic() - begin, SECONDS)


if __name__ == "__main__":
    unittest.main()
