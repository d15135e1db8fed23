"""Builders of plans for the tests."""

from allout.plans import Plan

NONE = (0, 0, 0)
FULL = (1000, 1000, 1000)

ROOM = ("room", "office", 100, 10, 0, (0, 30, 250), (0, 60, 300))
CORRIDOR = ("corridor", "office", 20, 5, 0, (100, 30, 250), (200, 60, 300))
YARD = ("outside", "shop", 0, 1, 0, (0, 0, 0), (0, 0, 0))
INNER = (0, 1, None, (80, 0, 200), (120, 90, 210))
OUTER = (1, 2, None, (80, 0, 200), (160, 90, 210))
EXTRA = (0, 2, 0, (70, 0, 200), (100, 90, 210))


def example():
    """The plan of the document's examples."""
    return Plan((ROOM, CORRIDOR, YARD), (INNER, OUTER, EXTRA), (500,), (3, 5, 2))


def space(length=1, kind="room", values=NONE, greatest=FULL):
    return (kind, "office", 10, length, 0, values, greatest)


def door(one, two, measure=None, values=NONE, greatest=FULL):
    return (one, two, measure, values, greatest)


def house(lengths, doors, measures=3):
    """A plan of rooms with these lengths, an outside where the length is None, and doors."""
    spaces = tuple(space(1, "outside") if length is None else space(length) for length in lengths)
    return Plan(spaces, tuple(door(*row) for row in doors), (0,) * measures, NONE)


def way(*numbers):
    """A way as the document tells it, from numbers of doors and spaces in turn."""
    return tuple((("door", "space")[at % 2], number) for at, number in enumerate(numbers))
