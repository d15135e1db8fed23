"""Builders for the tests of minutes, and what the document says of courses, as plainly as can be."""

from allout.plans import Plan, values_of
from houses import FULL, NONE

# One person for each unit of area.
ONE = (1, 1, 1, 1, 1)
OUT = None


def hall(rooms, doors, measures=0):
    """A plan of rooms (persons, length), OUT for an outside, and doors.

    A door is (one, two, rate), and may go on with the greatest rate and with its measure.
    """
    spaces = tuple(("outside", "shop", 9, 1, 0, NONE, FULL) if room is OUT
                   else ("room", "assembly", room[0], room[1], 0, NONE, FULL) for room in rooms)
    rows = []
    for one, two, rate, *more in doors:
        greatest = more[0] if more else rate
        measure = more[1] if len(more) > 1 else None
        rows.append((one, two, measure, (20 * rate, 0, 0), (20 * greatest, 1000, 1000)))
    return Plan(spaces, tuple(rows), (0,) * measures, (1, 1, 1))


def some_hall(source, rates=(0, 1, 2, 3, 7), areas=(0, 1, 3, 20, 200), lengths=(1, 30, 31, 70, 100)):
    """A plan by chance, whose doors may have measures and greater greatest widths."""
    many = source.randint(2, 8)
    rooms = [(source.choice(areas), source.choice(lengths)) for _ in range(many)]
    for at in range(many):
        if at == 0 or source.random() < 0.15:
            rooms[at] = OUT
    doors = []
    for _ in range(source.choice((2, 5, 8, 12))):
        rate = source.choice(rates)
        greatest = min(50, rate + source.choice((0, 0, 1, 5)))
        doors.append((*source.sample(range(many), 2), rate, greatest, source.choice((None, None, None, 0, 1))))
    return hall(rooms, doors, 2)


def crossed_hall(source):
    """A plan by chance with narrow doors across each other, where persons have to make room for others."""
    many = source.randint(4, 8)
    rooms = [OUT] + [(source.choice((0, 0, 2, 5, 10, 40)), source.choice((1, 31, 61, 91, 121)))
                     for _ in range(many - 1)]
    doors = [(0, source.randint(1, many - 1), source.choice((1, 1, 2))) for _ in range(source.choice((1, 2, 3)))]
    while len(doors) < 12:
        doors.append((*source.sample(range(1, many), 2), source.choice((1, 1, 2, 3))))
    return hall(rooms, doors)


def greatest_halls(source):
    """Plans with eight spaces, twelve doors, three measures and many persons."""
    line = [(at, at + 1) for at in range(7)]
    shapes = [
        line + [(at, at + 2) for at in range(5)],
        line + [(at, 7) for at in range(5)],
        [(at, to) for at in range(4) for to in range(4, 7)],
        [(at, at + 1) for at in range(6)] * 2,
        [source.sample(range(8), 2) for _ in range(12)],
    ]
    for sides in shapes:
        for rates in ((50,), (1, 2, 3), (1, 7, 50)):
            rooms = [(source.choice((1000, 2000, 100000)), source.choice((1, 30, 31, 100))) for _ in range(7)]
            doors = [(one, two, source.choice(rates), 50, source.choice((None, None, None, 0, 1, 2)))
                     for one, two in sides]
            yield hall(rooms + [OUT], doors, 3)


def is_open(plan, measures, door):
    return plan.doors[door][2] is None or plan.doors[door][2] in measures


def walk_of(plan, space):
    return -(-plan.spaces[space][3] // 30)


def persons_of(plan, areas):
    uses = ("assembly", "office", "shop", "storage", "home")
    return [0 if space[0] == "outside" else -(-space[2] // areas[uses.index(space[1])]) for space in plan.spaces]


def other(plan, door, space):
    one, two = plan.doors[door][:2]
    return two if space == one else one


def is_possible(plan, measures, areas, values, course):
    """Points 42 and 43 for a whole course."""
    keys = [row[:3] for row in course]
    if list(course) != sorted(course) or len(set(keys)) < len(keys):
        return False
    for minute, door, space, many in course:
        if minute < 0 or many < 1 or not is_open(plan, measures, door):
            return False
        if space not in plan.doors[door][:2] or plan.spaces[space][0] == "outside":
            return False
    return all(doors_suffice(values, course, row) and persons_suffice(plan, areas, course, row) for row in course)


def doors_suffice(values, course, row):
    """In the minute of the row not too many begin to pass its door."""
    passing = sum(many for minute, door, _, many in course if (minute, door) == row[:2])
    return 20 * passing <= values[1][row[1]][0]


def persons_suffice(plan, areas, course, row):
    """In the minute of the row not more have left its space than have come to its doors."""
    now, _, here, _ = row
    come = persons_of(plan, areas)[here] if walk_of(plan, here) <= now else 0
    left = 0
    for minute, door, space, many in course:
        if other(plan, door, space) == here and minute + 1 + walk_of(plan, here) <= now:
            come += many
        if space == here and minute <= now:
            left += many
    return left <= come


def first_fault(plan, measures, areas, values, course):
    for at in range(len(course)):
        if not is_possible(plan, measures, areas, values, course[:at + 1]):
            return at
    return None


def so_many_outside(plan, course, minute):
    return sum(row[3] for row in course
               if row[0] < minute and plan.spaces[other(plan, row[1], row[2])][0] == "outside")


def worth_of_cut(plan, measures, areas, values, minute, cut):
    """Point 45."""
    total = 0
    for space, many in enumerate(persons_of(plan, areas)):
        if plan.spaces[space][0] != "outside" and walk_of(plan, space) < cut[space]:
            total += many if walk_of(plan, space) < minute else 0
    for door, (one, two, _, _, _) in enumerate(plan.doors):
        rate = values[1][door][0] // 20
        for here, there in ((one, two), (two, one)):
            if not is_open(plan, measures, door) or plan.spaces[here][0] == "outside":
                continue
            if plan.spaces[there][0] == "outside":
                total += rate * (minute - cut[here])
            else:
                total += rate * max(0, cut[there] - 1 - walk_of(plan, there) - cut[here])
    return total


def everybody(plan, areas=ONE):
    return sum(persons_of(plan, areas))


def wider(plan, door):
    """The present values, but for a door with its greatest width."""
    of_spaces, of_doors = values_of(plan)
    rows = list(of_doors)
    rows[door] = (plan.doors[door][4][0],) + rows[door][1:]
    return (of_spaces, tuple(rows))
