"""Ways out: distances, routes, choke points, two ways that share nothing, and detours."""

from allout.errors import NothingToAvoid
from allout.plans import check_element, is_outside, length_of, open_doors, other_side, sides_of


def distances(plan, measures):
    """The least length of the ways of each space, or None where there is no way."""
    return _distances_around(plan, measures, ())


def route(plan, measures, space):
    """The route of a space, or None if it has no way."""
    return _way_around(plan, measures, space, ())


def way_length(plan, measures, space, doors):
    """The length of the way from the space through just these doors, or None if there is none."""
    passable = open_doors(plan, measures)
    total = 0
    here = space
    for door in doors:
        if is_outside(plan, here) or door not in passable or here not in sides_of(plan, door):
            return None
        total += length_of(plan, here)
        here = other_side(plan, door, here)
    if not is_outside(plan, here):
        return None
    return total


def choke_points(plan, measures, space):
    """What every way of the space passes, in the order of the route, or None if it has no way."""
    way = route(plan, measures, space)
    if way is None:
        return None
    # A choke point is on every way, so also on the route, whose last element is an outside.
    return tuple(element for element in way[:-1] if not _has_way_around(plan, measures, space, (element,)))


def common_path(plan, measures, space):
    """The length of the route up to its last choke point, or None if there is no way."""
    chokes = choke_points(plan, measures, space)
    if chokes is None:
        return None
    if is_outside(plan, space):
        return 0
    total = length_of(plan, space)
    if not chokes:
        return total
    way = route(plan, measures, space)
    for kind, number in way[:way.index(chokes[-1]) + 1]:
        if kind == "space":
            total += length_of(plan, number)
    return total


def two_ways(plan, measures, space):
    """Two ways that share nothing, or the first choke point, or that there is no way."""
    chokes = choke_points(plan, measures, space)
    if chokes:
        return ("through", chokes[0])
    # Not every way leaves room for a second one, not even each shortest one, so all have
    # their turn; twelve doors are too few for many ways that pass no space twice.
    for first in _simple_ways(plan, steps_around(plan, measures, ()), space, (space,)):
        second = _way_around(plan, measures, space, first[:-1])
        if second is not None:
            return ("ways", first, second)
    return ("none",)


def detour(plan, measures, space, element):
    """A shortest way of the space that does not pass the element, or None."""
    check_element(plan, element)
    kind, number = element
    if kind == "space" and (number == space or is_outside(plan, number)):
        raise NothingToAvoid()
    way = _way_around(plan, measures, space, (element,))
    if way is None:
        return None
    return ("way", way, _distances_around(plan, measures, (element,))[space])


def _simple_ways(plan, steps, space, reached):
    """All ways of the space by these steps that reach no space again that was reached before."""
    if is_outside(plan, space):
        return [()]
    found = []
    for door, here, there in steps:
        if here == space and there not in reached:
            begin = (("door", door), ("space", there))
            for rest in _simple_ways(plan, steps, there, reached + (there,)):
                found.append(begin + rest)
    return found


def _has_way_around(plan, measures, space, barred):
    return _distances_around(plan, measures, barred)[space] is not None


def _distances_around(plan, measures, barred):
    """The distance of each space if no way may pass a barred element."""
    return _least_lengths(plan, steps_around(plan, measures, barred))


def _way_around(plan, measures, space, barred):
    """The route of the space if no way may pass a barred element, or None."""
    steps = steps_around(plan, measures, barred)
    lengths = _least_lengths(plan, steps)
    if lengths[space] is None:
        return None
    way = ()
    here = space
    while not is_outside(plan, here):
        door, here = _first_step(plan, steps, lengths, here)
        way += (("door", door), ("space", here))
    return way


def _first_step(plan, steps, lengths, space):
    """The door with the least number at which a shortest way begins, and the next space."""
    rest = lengths[space] - length_of(plan, space)
    first = [(door, there) for door, here, there in steps if here == space and lengths[there] == rest]
    return first[0]


def _least_lengths(plan, steps):
    """The least length of a way by these steps for each space, or None."""
    found = [0 if is_outside(plan, space) else None for space in range(len(plan.spaces))]
    # A shortest way passes no space twice, so it has fewer steps than there are spaces.
    for _ in plan.spaces:
        for _, here, there in steps:
            if found[there] is not None:
                length = length_of(plan, here) + found[there]
                if found[here] is None or length < found[here]:
                    found[here] = length
    return tuple(found)


def steps_around(plan, measures, barred):
    """The steps (door, from, to) that a way can take without a barred element, by door."""
    found = []
    for door in open_doors(plan, measures):
        if ("door", door) in barred:
            continue
        one, two = sides_of(plan, door)
        for here, there in ((one, two), (two, one)):
            # A way ends at the first outside, so no step leads from one.
            if not is_outside(plan, here) and ("space", there) not in barred:
                found.append((door, here, there))
    return found
