"""Persons, the loads of spaces and doors, and all other quantities."""

from allout.plans import USES, doors_at
from allout.ways import choke_points, common_path, distances, route

NO_WAY = 999999


def persons(plan, areas):
    """The persons of each space, as many for an area as its use has."""
    return tuple(_persons_of(space, areas) for space in plan.spaces)


def loads(plan, measures, areas):
    """The loads of all spaces, and those of all doors."""
    many_persons = persons(plan, areas)
    of_spaces = list(many_persons)
    of_doors = [0] * len(plan.doors)
    for space, many in enumerate(many_persons):
        way = route(plan, measures, space)
        if way is None:
            continue
        for kind, number in way:
            if kind == "space":
                of_spaces[number] += many
            else:
                of_doors[number] += many
    return (tuple(of_spaces), tuple(of_doors))


def quantity(plan, measures, areas, element, name):
    """The quantity of an element with this name."""
    kind, number = element
    if name == "load":
        of_spaces, of_doors = loads(plan, measures, areas)
        return of_spaces[number] if kind == "space" else of_doors[number]
    if kind == "door":
        return 0
    if name == "persons":
        return persons(plan, areas)[number]
    if name == "doors":
        return len(doors_at(plan, measures, number))
    if name == "area":
        return plan.spaces[number][2]
    if name == "storey":
        return plan.spaces[number][4]
    return _quantity_of_ways(plan, measures, number, name)


def rounded_up(number, divisor):
    """The number divided by the divisor, rounded up."""
    return (number + divisor - 1) // divisor


def _persons_of(space, areas):
    kind, use, area = space[:3]
    if kind == "outside":
        return 0
    return rounded_up(area, areas[USES.index(use)])


def _quantity_of_ways(plan, measures, space, name):
    if name == "distance":
        found = distances(plan, measures)[space]
    elif name == "commonPath":
        found = common_path(plan, measures, space)
    else:
        chokes = choke_points(plan, measures, space)
        found = None if chokes is None else len(chokes)
    return NO_WAY if found is None else found
