"""Points 10 to 16 on many plans, against a plain search through all ways, and on the greatest plans."""

import random
import time
import unittest

from allout.ways import choke_points, common_path, detour, distances, route, two_ways, way_length
from houses import house

# Far more than is needed, so that only an answer of another order of time is noticed.
SECONDS = 10


def doors_of(passed):
    return tuple(number for kind, number in passed if kind == "door")


def simple_ways(plan, measures, space):
    """All ways that reach no space twice."""
    if plan.spaces[space][0] == "outside":
        return [()]
    rows = []
    for number, (one, two, measure, _, _) in enumerate(plan.doors):
        if measure is None or measure in measures:
            rows += [(number, one, two), (number, two, one)]
    found = []
    begun = [((), (space,))]
    while begun:
        passed, reached = begun.pop()
        for number, here, there in rows:
            if here == reached[-1] and there not in reached:
                further = passed + (("door", number), ("space", there))
                if plan.spaces[there][0] == "outside":
                    found.append(further)
                else:
                    begun.append((further, reached + (there,)))
    return found


def random_plan(source):
    many = source.randint(2, 8)
    lengths = [None if source.random() < 0.25 else source.randint(1, 4) for _ in range(many)]
    rows = []
    for _ in range(source.choice((3, 6, 9, 12, 12))):
        rows.append((*source.sample(range(many), 2), source.choice((None, None, 0, 1))))
    return house(lengths, rows)


class SearchTest(unittest.TestCase):
    def check_space(self, plan, measures, space):
        ways = simple_ways(plan, measures, space)
        if not ways:
            self.check_no_way(plan, measures, space)
            return
        outsides = {("space", at) for at, row in enumerate(plan.spaces) if row[0] == "outside"}
        lengths = {passed: self.length(plan, space, passed) for passed in ways}
        least = min(lengths.values())
        self.assertEqual(distances(plan, measures)[space], least)
        best = min((passed for passed in ways if lengths[passed] == least), key=doors_of)
        self.assertEqual(route(plan, measures, space), best)
        always = set.intersection(*[set(passed) for passed in ways]) - outsides
        chokes = tuple(element for element in best if element in always)
        self.assertEqual(choke_points(plan, measures, space), chokes)
        self.check_common_path(plan, measures, space, best, chokes)
        self.check_two_ways(plan, measures, space, ways, outsides, chokes)
        self.check_detours(plan, measures, space, lengths, outsides)

    def length(self, plan, space, passed):
        if not passed:
            return 0
        spaces = [space] + [number for kind, number in passed[:-1] if kind == "space"]
        return sum(plan.spaces[number][3] for number in spaces)

    def check_no_way(self, plan, measures, space):
        self.assertIsNone(distances(plan, measures)[space])
        self.assertIsNone(route(plan, measures, space))
        self.assertIsNone(choke_points(plan, measures, space))
        self.assertIsNone(common_path(plan, measures, space))
        self.assertEqual(two_ways(plan, measures, space), ("none",))

    def check_common_path(self, plan, measures, space, best, chokes):
        end = best.index(chokes[-1]) + 1 if chokes else 0
        numbers = [space] + [number for kind, number in best[:end] if kind == "space"]
        expected = sum(plan.spaces[number][3] for number in numbers) if best else 0
        self.assertEqual(common_path(plan, measures, space), expected)

    def check_two_ways(self, plan, measures, space, ways, outsides, chokes):
        told = two_ways(plan, measures, space)
        possible = any(set(one) & set(two) <= outsides for one in ways for two in ways)
        if not possible:
            self.assertEqual(told, ("through", chokes[0]))
            return
        self.assertEqual((told[0], len(told)), ("ways", 3))
        self.assertEqual(chokes, ())
        self.assertIn(told[1], ways)
        self.assertIn(told[2], ways)
        self.assertLessEqual(set(told[1]) & set(told[2]), outsides)

    def check_detours(self, plan, measures, space, lengths, outsides):
        spaces = [("space", number) for number in range(len(plan.spaces)) if number != space]
        for element in spaces + [("door", number) for number in range(len(plan.doors))]:
            if element in outsides:
                continue
            around = {passed: length for passed, length in lengths.items() if element not in passed}
            told = detour(plan, measures, space, element)
            if not around:
                self.assertIsNone(told)
                continue
            word, passed, length = told
            self.assertEqual((word, length), ("way", min(around.values())))
            self.assertEqual(around.get(passed), length)
            self.assertEqual(way_length(plan, measures, space, doors_of(passed)), length)

    def test_many_plans(self):
        source = random.Random(2026)
        for _ in range(400):
            plan = random_plan(source)
            measures = source.choice(((), (0,), (1,), (0, 1)))
            for space in range(len(plan.spaces)):
                self.check_space(plan, measures, space)


def greatest_plans():
    """Plans with all the spaces and doors there may be, and with many ways."""
    line = (1,) * 7 + (None,)
    yield house((5, 5, 5, 5, None), tuple((at, at + 1) for at in range(4)) * 3)
    yield house((1, 1, None), ((0, 1),) * 6 + ((1, 2),) * 6)
    yield house((1, 1), ((0, 1),) * 12)
    yield house((1, None), ((0, 1, 2),) * 11 + ((0, 1),))
    yield house(line, tuple((at, at + 1) for at in range(7)) + tuple((at, at + 2) for at in range(5)))
    yield house((1,) * 8, tuple((at, at + 1) for at in range(7)) + tuple((at, at + 2) for at in range(5)))
    yield house((1, 1, 1, 1, 1, 1, None, 1), tuple((at, to) for at in range(3) for to in range(3, 7)))
    yield house((1,) * 5 + (None,), tuple((at, to) for at in range(5) for to in range(at + 1, 5)) + ((3, 5), (4, 5)))


class GreatestPlansTest(unittest.TestCase):
    def test_answers_come_soon(self):
        begin = time.monotonic()
        for plan in greatest_plans():
            self.assertLessEqual(len(plan.doors), 12)
            for measures in ((), (0, 1, 2)):
                for space in range(len(plan.spaces)):
                    for _ in range(20):
                        distances(plan, measures)
                        route(plan, measures, space)
                        common_path(plan, measures, space)
                        two_ways(plan, measures, space)
                        detour(plan, measures, space, ("door", 0))
                        way_length(plan, measures, space, (0, 0) * 500)
        self.assertLess(time.monotonic() - begin, SECONDS)

    def test_answers_are_right(self):
        search = SearchTest()
        for plan in greatest_plans():
            for measures in ((), (0, 1, 2)):
                for space in range(len(plan.spaces)):
                    search.check_space(plan, measures, space)


if __name__ == "__main__":
    unittest.main()
