"""What codes require of the elements of a plan, and where values violate them."""

from allout.codes import Code
from allout.plans import present
from allout.settling import flat_values, place_of, settled, settled_line, worth_of
from allout.sites import Site


def holds(plan, measures, code, element, condition):
    """Tell whether the tree of a condition holds at an element."""
    return Site(plan, measures).condition_holds(code.areas, element, condition)


def related(plan, measures, element, relation):
    """The related elements of an element, a tuple."""
    return Site(plan, measures).related_to(element, relation)


def worth(plan, measures, code, values, element, expression):
    """The value of the tree of an expression at an element."""
    site = Site(plan, measures)
    return worth_of(settled(site, code.areas, element, expression), flat_values(values))


def demanded(plan, measures, codes, values, element, rule):
    """What the rule with this number requires of its attribute at an element, or None."""
    code = code_for(codes, element)
    expression = settled_line(Site(plan, measures), code.areas, element, code.rules[rule])
    if expression is None:
        return None
    return worth_of(expression, flat_values(values))


def allowed(plan, measures, codes, element, limit):
    """The greatest value that the limit with this number allows at an element, or None."""
    code = code_for(codes, element)
    return allowed_at(Site(plan, measures), code, element, code.limits[limit])


def required(plan, measures, codes, values, element, attribute):
    """The greatest value that the rules require of an attribute of an element."""
    if element not in present(plan, measures):
        return 0
    worths = flat_values(values)
    demands = demands_at(Site(plan, measures), code_for(codes, element), element)
    return max([worth_of(expression, worths) for _, name, expression in demands if name == attribute], default=0)


def violations(plan, measures, codes, values):
    """The violations, by element, the rules ahead of the limits, each by number."""
    site = Site(plan, measures)
    worths = flat_values(values)
    found = []
    for element in present(plan, measures):
        code = code_for(codes, element)
        found += _rule_violations(site, code, element, worths)
        found += _limit_violations(site, code, element)
    return tuple(found)


def is_compliant(plan, measures, codes, values):
    """Tell whether there are no violations."""
    return violations(plan, measures, codes, values) == ()


def code_for(codes, element):
    """The code that holds for an element."""
    if isinstance(codes, Code):
        return codes
    of_spaces, of_doors = codes
    kind, number = element
    return of_spaces[number] if kind == "space" else of_doors[number]


def demands_at(site, code, element):
    """What rules require of an element: (rule, attribute, settled expression), by rule."""
    found = []
    for number, rule in enumerate(code.rules):
        expression = settled_line(site, code.areas, element, rule)
        if expression is not None:
            found.append((number, rule[1], expression))
    return found


def allowed_at(site, code, element, limit):
    """The greatest value that a limit allows at an element, or None."""
    expression = settled_line(site, code.areas, element, limit)
    if expression is None:
        return None
    # Limits do not ask for values.
    return worth_of(expression, [])


def exceeded(site, code, element, limit):
    """The pair of the quantity and the lesser value that a limit allows, or None if it holds."""
    most = allowed_at(site, code, element, limit)
    if most is None:
        return None
    found = site.quantity_at(code.areas, element, limit[1])
    if found <= most:
        return None
    return (found, most)


def _rule_violations(site, code, element, worths):
    found = []
    for number, attribute, expression in demands_at(site, code, element):
        value = worths[place_of(site.plan, element, attribute)]
        least = worth_of(expression, worths)
        if value < least:
            found.append(("rule", number) + element + (value, least))
    return found


def _limit_violations(site, code, element):
    found = []
    for number, limit in enumerate(code.limits):
        pair = exceeded(site, code, element, limit)
        if pair is not None:
            found.append(("limit", number) + element + pair)
    return found
