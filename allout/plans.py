"""Plans: spaces, doors between them, measures, and what they have at present."""

from allout.errors import BadPlan, NoSuchElement

KINDS = ("room", "corridor", "stair", "outside")
USES = ("assembly", "office", "shop", "storage", "home")
ATTRIBUTES = ("width", "rating", "height")
KINDS_OF_PARTS = ("space", "door")

MOST_SPACES = 8
MOST_DOORS = 12
MOST_MEASURES = 3
GREATEST_AREA = 100000
GREATEST_LENGTH = 1000
GREATEST_STOREY = 50
GREATEST_VALUE = 1000
GREATEST_MEASURE_PRICE = 100000
GREATEST_PRICE = 1000


class Plan:
    """A plan whose parts keep all rules for plans."""

    def __init__(self, spaces, doors, measure_prices, prices):
        if not _is_plan(spaces, doors, measure_prices, prices):
            raise BadPlan()
        self.spaces = spaces
        self.doors = doors
        self.measure_prices = measure_prices
        self.prices = prices


def _is_plan(spaces, doors, measure_prices, prices):
    if not (_is_tuple(spaces, 1, MOST_SPACES) and _is_tuple(doors, 0, MOST_DOORS)):
        return False
    if not (_is_tuple(measure_prices, 0, MOST_MEASURES) and _is_triple(prices, GREATEST_PRICE)):
        return False
    if not all(_is_number(price, 0, GREATEST_MEASURE_PRICE) for price in measure_prices):
        return False
    if not all(_is_space(space) for space in spaces):
        return False
    return all(_is_door(door, len(spaces), len(measure_prices)) for door in doors)


def _is_space(space):
    if not _is_tuple(space, 7, 7):
        return False
    kind, use, area, length, storey, values, greatest = space
    if kind not in KINDS or use not in USES:
        return False
    if not (_is_number(area, 0, GREATEST_AREA) and _is_number(length, 1, GREATEST_LENGTH)):
        return False
    return _is_number(storey, 0, GREATEST_STOREY) and _are_values(values, greatest)


def _is_door(door, many_spaces, many_measures):
    if not _is_tuple(door, 5, 5):
        return False
    one, two, measure, values, greatest = door
    if not (_is_number(one, 0, many_spaces - 1) and _is_number(two, 0, many_spaces - 1)):
        return False
    if one == two:
        return False
    if measure is not None and not _is_number(measure, 0, many_measures - 1):
        return False
    return _are_values(values, greatest)


def _are_values(values, greatest):
    if not (_is_triple(values, GREATEST_VALUE) and _is_triple(greatest, GREATEST_VALUE)):
        return False
    return all(value <= most for value, most in zip(values, greatest))


def _is_triple(triple, most):
    return _is_tuple(triple, 3, 3) and all(_is_number(number, 0, most) for number in triple)


def _is_tuple(rows, least, most):
    return isinstance(rows, tuple) and least <= len(rows) <= most


def _is_number(number, least, most):
    # Python counts True and False as integers; a plan does not.
    return isinstance(number, int) and not isinstance(number, bool) and least <= number <= most


def is_outside(plan, space):
    """Tell whether the space with this number is an outside."""
    return plan.spaces[space][0] == "outside"


def length_of(plan, space):
    """The length of the space with this number."""
    return plan.spaces[space][3]


def sides_of(plan, door):
    """The numbers of the two spaces of the door with this number."""
    return plan.doors[door][:2]


def open_doors(plan, measures):
    """The numbers of the doors that are open under measures, ascending."""
    found = []
    for number, door in enumerate(plan.doors):
        measure = door[2]
        if measure is None or measure in measures:
            found.append(number)
    return tuple(found)


def doors_at(plan, measures, space):
    """The numbers of the open doors at the space with this number, ascending."""
    return tuple(door for door in open_doors(plan, measures) if space in sides_of(plan, door))


def other_side(plan, door, space):
    """The number of the space that the door with this number has beside this one."""
    one, two = sides_of(plan, door)
    return two if space == one else one


def present(plan, measures):
    """The elements that are present under measures, in their order."""
    spaces = [("space", number) for number in range(len(plan.spaces)) if not is_outside(plan, number)]
    doors = [("door", number) for number in open_doors(plan, measures)]
    return tuple(spaces + doors)


def check_element(plan, element):
    """Refuse a pair that is no element of the plan."""
    kind, number = element
    counts = {"space": len(plan.spaces), "door": len(plan.doors)}
    if kind not in counts or not 0 <= number < counts[kind]:
        raise NoSuchElement()


def values_of(plan):
    """The present values: a tuple of triples for the spaces, and one for the doors."""
    spaces = tuple(space[5] for space in plan.spaces)
    doors = tuple(door[3] for door in plan.doors)
    return (spaces, doors)


def value_of(values, element, attribute):
    """The value of an attribute of an element."""
    kind, number = element
    return values[KINDS_OF_PARTS.index(kind)][number][ATTRIBUTES.index(attribute)]


def greatest_of(plan, element, attribute):
    """The greatest value that an attribute of an element can have."""
    kind, number = element
    greatest = plan.spaces[number][6] if kind == "space" else plan.doors[number][4]
    return greatest[ATTRIBUTES.index(attribute)]


def with_value(values, element, attribute, value):
    """The values, but for this one of an element."""
    kind, number = element
    parts = [list(part) for part in values]
    part = parts[KINDS_OF_PARTS.index(kind)]
    triple = list(part[number])
    triple[ATTRIBUTES.index(attribute)] = value
    part[number] = tuple(triple)
    return tuple([tuple(row) for row in parts])


def price_of(plan, before, after):
    """The price of the raises from values to others that are nowhere below them."""
    spaces_before, doors_before = before
    spaces_after, doors_after = after
    spaces_price = _raises_price(plan.prices, spaces_before, spaces_after)
    return spaces_price + _raises_price(plan.prices, doors_before, doors_after)


def _raises_price(prices, before, after):
    total = 0
    for low, high in zip(before, after):
        for price, old, new in zip(prices, low, high):
            total += price * (new - old)
    return total
