"""Points 17 to 19: persons, loads and quantities."""

import unittest

from allout.loads import loads, persons, quantity
from allout.plans import Plan
from houses import FULL, NONE, door, example, house

AREAS = (1, 10, 5, 30, 20)
USES = ("assembly", "office", "shop", "storage", "home")
NAMES = ("persons", "load", "distance", "commonPath", "chokePoints", "doors", "area", "storey")


def room(area, use="office", kind="room", length=1, storey=0):
    return (kind, use, area, length, storey, NONE, FULL)


def house_of(spaces, rows, measures=1):
    return Plan(tuple(spaces), tuple(door(*row) for row in rows), (0,) * measures, NONE)


def quantities(plan, measures, element):
    return tuple(quantity(plan, measures, AREAS, element, name) for name in NAMES)


class PersonsTest(unittest.TestCase):
    def persons_of(self, area, areas, use="office", kind="room"):
        return persons(Plan((room(area, use, kind),), (), (), NONE), areas)

    def test_example(self):
        self.assertEqual(persons(example(), AREAS), (10, 2, 0))

    def test_rounding_up(self):
        for area, expected in ((0, 0), (1, 1), (9, 1), (10, 1), (11, 2), (19, 2), (20, 2), (21, 3)):
            self.assertEqual(self.persons_of(area, AREAS), (expected,), area)

    def test_bounds(self):
        self.assertEqual(self.persons_of(100000, (1,) * 5), (100000,))
        self.assertEqual(self.persons_of(100000, (1000,) * 5), (100,))
        self.assertEqual(self.persons_of(99999, (1000,) * 5), (100,))
        self.assertEqual(self.persons_of(1, (1000,) * 5), (1,))

    def test_each_use_has_its_area(self):
        spaces = [room(60, use) for use in USES]
        self.assertEqual(persons(Plan(tuple(spaces), (), (), NONE), AREAS), (60, 6, 12, 2, 3))
        for at, use in enumerate(USES):
            areas = tuple(7 if at == other else 1 for other in range(5))
            self.assertEqual(self.persons_of(700, areas, use), (100,), use)

    def test_kinds_with_persons_and_the_outside_without(self):
        for kind in ("room", "corridor", "stair"):
            self.assertEqual(self.persons_of(100, AREAS, "office", kind), (10,))
        for use in USES:
            self.assertEqual(self.persons_of(100, AREAS, use, "outside"), (0,))


class LoadsTest(unittest.TestCase):
    def test_example(self):
        self.assertEqual(loads(example(), (), AREAS), ((10, 12, 12), (10, 12, 0)))

    def test_measure_moves_a_route(self):
        self.assertEqual(loads(example(), (0,), AREAS), ((10, 2, 12), (0, 2, 10)))

    def test_areas_make_the_persons(self):
        self.assertEqual(loads(example(), (), (1, 7, 1, 1, 1)), ((15, 18, 18), (15, 18, 0)))

    def test_spaces_without_a_way_have_their_own_persons_alone(self):
        plan = house_of((room(10), room(20), room(40), room(1, kind="outside")), ((0, 1), (1, 2), (0, 3, 0)))
        self.assertEqual(loads(plan, (), AREAS), ((1, 2, 4, 0), (0, 0, 0)))
        self.assertEqual(loads(plan, (0,), AREAS), ((7, 6, 4, 7), (6, 4, 7)))

    def test_door_that_is_not_open_has_no_load(self):
        plan = house_of((room(10), room(90, kind="outside")), ((0, 1, 0), (0, 1)))
        self.assertEqual(loads(plan, (), AREAS), ((1, 1), (0, 1)))
        self.assertEqual(loads(plan, (0,), AREAS), ((1, 1), (1, 0)))

    def test_ring(self):
        # From space 3 both directions are as long; the door with the least number decides.
        spaces = [room(area) for area in (10, 20, 40, 80)] + [room(1, kind="outside")]
        plan = house_of(spaces, ((0, 1), (0, 2), (1, 3), (2, 3), (0, 4)))
        self.assertEqual(loads(plan, (), AREAS), ((15, 10, 4, 8, 15), (10, 4, 8, 0, 15)))
        other = house_of(spaces, ((0, 1), (0, 2), (2, 3), (1, 3), (0, 4)))
        self.assertEqual(loads(other, (), AREAS), ((15, 2, 12, 8, 15), (2, 12, 8, 0, 15)))

    def test_doors_are_passed_in_either_direction(self):
        spaces = (room(10, kind="outside"), room(20), room(40))
        plan = house_of(spaces, ((0, 1), (2, 1)))
        self.assertEqual(loads(plan, (), AREAS), ((6, 6, 4), (6, 4)))

    def test_outsides_have_the_persons_who_end_there(self):
        spaces = (room(10), room(20), room(70, kind="outside"), room(70, kind="outside"))
        plan = house_of(spaces, ((0, 2), (1, 3), (2, 3)))
        self.assertEqual(loads(plan, (), AREAS), ((1, 2, 1, 2), (1, 2, 0)))

    def test_no_doors_and_no_persons(self):
        self.assertEqual(loads(house((1,), ()), (), AREAS), ((1,), ()))
        self.assertEqual(loads(house_of((room(0), room(0, kind="outside")), ((0, 1),)), (), AREAS), ((0, 0), (0,)))

    def test_greatest_loads(self):
        spaces = [room(100000, "assembly")] * 7 + [room(0, kind="outside")]
        plan = house_of(spaces, [(at, at + 1) for at in range(7)])
        many = tuple(100000 * (at + 1) for at in range(7))
        self.assertEqual(loads(plan, (), (1,) * 5), (many + (700000,), many))


class QuantityTest(unittest.TestCase):
    def plan(self):
        spaces = (
            room(100, "office", length=10, storey=3),
            room(20, "shop", "corridor", 5, 2),
            room(60, "home", "stair", 7, 50),
            room(90, "storage", length=4, storey=1),
            room(77, "shop", "outside", 9, 4),
            room(100, "home", length=2),
        )
        return house_of(spaces, ((0, 1), (1, 2), (2, 4), (1, 2), (3, 5), (3, 4, 0), (4, 0, 0)))

    def test_spaces_with_a_way(self):
        plan = self.plan()
        self.assertEqual(quantities(plan, (), ("space", 0)), (10, 10, 22, 22, 4, 1, 100, 3))
        self.assertEqual(quantities(plan, (), ("space", 1)), (4, 14, 12, 12, 2, 3, 20, 2))
        self.assertEqual(quantities(plan, (), ("space", 2)), (3, 17, 7, 7, 1, 3, 60, 50))

    def test_spaces_without_a_way(self):
        plan = self.plan()
        far = 999999
        self.assertEqual(quantities(plan, (), ("space", 3)), (3, 3, far, far, far, 1, 90, 1))
        self.assertEqual(quantities(plan, (), ("space", 5)), (5, 5, far, far, far, 1, 100, 0))

    def test_outside(self):
        self.assertEqual(quantities(self.plan(), (), ("space", 4)), (0, 17, 0, 0, 0, 1, 77, 4))
        self.assertEqual(quantities(self.plan(), (0,), ("space", 4)), (0, 25, 0, 0, 0, 3, 77, 4))
        lonely = house_of((room(70, kind="outside", storey=6),), ())
        self.assertEqual(quantities(lonely, (), ("space", 0)), (0, 0, 0, 0, 0, 0, 70, 6))

    def test_open_doors(self):
        plan = self.plan()
        for number, load in enumerate((10, 14, 17, 0, 0)):
            self.assertEqual(quantities(plan, (), ("door", number)), (0, load) + (0,) * 6)
        self.assertEqual(quantities(plan, (0,), ("door", 5)), (0, 8) + (0,) * 6)

    def test_closed_doors(self):
        for number in (5, 6):
            self.assertEqual(quantities(self.plan(), (), ("door", number)), (0,) * 8)

    def test_measures(self):
        # Space 1 has two ways now that share nothing, so its common path is its own length.
        plan = self.plan()
        self.assertEqual(quantities(plan, (0,), ("space", 0)), (10, 10, 10, 10, 0, 2, 100, 3))
        self.assertEqual(quantities(plan, (0,), ("space", 1)), (4, 4, 12, 5, 0, 3, 20, 2))
        self.assertEqual(quantities(plan, (0,), ("space", 3)), (3, 8, 4, 4, 1, 2, 90, 1))
        self.assertEqual(quantities(plan, (0,), ("space", 5)), (5, 5, 6, 6, 3, 1, 100, 0))

    def test_common_path_ends_at_the_last_choke_point(self):
        plan = house((2, 3, 4, None), ((0, 1), (1, 2), (1, 3), (2, 3)))
        self.assertEqual(quantity(plan, (), AREAS, ("space", 0), "commonPath"), 5)
        self.assertEqual(quantity(plan, (), AREAS, ("space", 0), "chokePoints"), 2)
        self.assertEqual(quantity(plan, (), AREAS, ("space", 0), "distance"), 5)
        self.assertEqual(quantity(plan, (), AREAS, ("space", 1), "commonPath"), 3)

    def test_areas_matter_for_persons_and_load_alone(self):
        plan = self.plan()
        for name in NAMES:
            one = quantity(plan, (), AREAS, ("space", 1), name)
            other = quantity(plan, (), (1,) * 5, ("space", 1), name)
            self.assertEqual(one != other, name in ("persons", "load"), name)

    def test_arguments_stay_as_they_were(self):
        plan = self.plan()
        before = dict(vars(plan))
        for element in (("space", 0), ("space", 4), ("door", 5)):
            quantities(plan, (), element)
        self.assertEqual(vars(plan), before)


if __name__ == "__main__":
    unittest.main()
