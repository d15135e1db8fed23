"""What codes come down to at an element: settled expressions, which ask for values alone.

Neither conditions nor quantities depend on values. So what a rule or a limit requires of an
element is settled once, and then has its worth for as many values as needed. Values are a
flat list here, with three places for each element, the spaces first; a place is an index.
"""

from allout.loads import rounded_up
from allout.plans import ATTRIBUTES

GREATEST_WORTH = 1000000


def place_of(plan, element, attribute):
    """The place of a value of an element of the plan."""
    kind, number = element
    if kind == "door":
        number += len(plan.spaces)
    return len(ATTRIBUTES) * number + ATTRIBUTES.index(attribute)


def flat_values(values):
    """The list of all values, by place."""
    return [value for triples in values for triple in triples for value in triple]


def values_from(plan, worths):
    """The pair of tuples of triples for a list of all values."""
    width = len(ATTRIBUTES)
    triples = [tuple(worths[at:at + width]) for at in range(0, len(worths), width)]
    many = len(plan.spaces)
    return (tuple(triples[:many]), tuple(triples[many:]))


def settled_line(site, areas, element, line):
    """What a rule or a limit requires of an element, settled, or None if it requires nothing."""
    subject, _, condition, requirement = line
    if subject != element[0] or not site.condition_holds(areas, element, condition):
        return None
    value = _decided(site, areas, element, requirement)
    if value[0] == "nothing":
        return None
    return settled(site, areas, element, value)


def settled(site, areas, element, expression):
    """An expression at an element, with numbers for quantities and places for attributes."""
    word = expression[0]
    if word == "number":
        return expression
    if word == "quantity":
        return ("number", site.quantity_at(areas, element, expression[1]))
    if word == "own":
        return ("greatest", (place_of(site.plan, element, expression[1]),))
    if word in ("greatest", "sum"):
        _, attribute, relation = expression
        related = site.related_to(element, relation)
        return (word, tuple(place_of(site.plan, other, attribute) for other in related))
    parts = [settled(site, areas, element, part) if _is_expression(part) else part for part in expression[1:]]
    return (word,) + tuple(parts)


def worth_of(expression, worths):
    """The value of a settled expression for a list of all values."""
    return min(_worth_unbounded(expression, worths), GREATEST_WORTH)


def places_in(expression):
    """The places whose values a settled expression asks for, a list."""
    if expression[0] in ("greatest", "sum"):
        return list(expression[1])
    return [place for part in expression[1:] if _is_expression(part) for place in places_in(part)]


def _decided(site, areas, element, requirement):
    """The value of a requirement that counts at an element, an expression or nothing."""
    value, exceptions = requirement
    for condition, inner in exceptions:
        if site.condition_holds(areas, element, condition):
            return _decided(site, areas, element, inner)
    return value


def _is_expression(part):
    """Tell an expression within another one from a number and from steps."""
    return isinstance(part, tuple) and isinstance(part[0], str)


def _worth_unbounded(expression, worths):
    word = expression[0]
    if word == "number":
        return expression[1]
    if word == "greatest":
        return max([worths[place] for place in expression[1]], default=0)
    if word == "sum":
        return sum([worths[place] for place in expression[1]])
    if word == "times":
        return expression[1] * worth_of(expression[2], worths)
    first = worth_of(expression[1], worths)
    if word == "table":
        return _value_of_step(expression[2], first)
    if word == "share":
        return rounded_up(first, expression[2])
    second = worth_of(expression[2], worths)
    return first + second if word == "plus" else max(first, second)


def _value_of_step(steps, number):
    """The value of the last step that starts at most at the number; 0 ahead of the first one."""
    found = 0
    for start, value in steps:
        if start <= number:
            found = value
    return found
