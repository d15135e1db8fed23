"""The least upgrade, its reasons, and what checks reasons without any search."""

from allout.errors import TooManyReasons
from allout.judging import code_for, demands_at, exceeded
from allout.plans import greatest_of, present, price_of
from allout.settling import flat_values, place_of, places_in, values_from, worth_of
from allout.sites import Site

MOST_REASONS = 300


class Rounds:
    """Values that are raised in rounds, each of them with the values before it."""

    def __init__(self, site, codes, values):
        self.plan = site.plan
        self.worths = flat_values(values)
        demands = demands_of(site, codes)
        self.demands = [(place_of(site.plan, key[:2], key[2]), key, demands[key]) for key in demands]
        self.askers = _askers(self.demands, len(self.worths))
        self.due = list(range(len(demands)))

    def carry_out(self):
        """Carry out a round; its raises are reasons, by element and attribute; none in the last one."""
        raised = self._raised()
        for place in raised:
            self.worths[place] = raised[place][-1]
        # What a rule requires can only be more than before if a value that it asks for was raised.
        self.due = sorted({asker for place in raised for asker in self.askers[place]})
        return [raised[place] for place in sorted(raised)]

    def _raised(self):
        """The reason of each place whose value is raised in this round."""
        found = {}
        for at in self.due:
            place, key, expression = self.demands[at]
            value = worth_of(expression, self.worths)
            so_far = found[place][-1] if place in found else self.worths[place]
            if value > so_far:
                found[place] = key + (value,)
        return found

    def values_so_far(self):
        """The values that the rounds so far have led to."""
        return values_from(self.plan, self.worths)


def least_upgrade(plan, measures, codes, values):
    """The least upgrade with its price, or the obstacle."""
    site = Site(plan, measures)
    obstacle = _limit_obstacle(site, codes)
    if obstacle is not None:
        return ("obstacle", obstacle)
    rounds = Rounds(site, codes, values)
    raises = rounds.carry_out()
    while raises:
        for reason in raises:
            if _is_too_great(plan, reason):
                return ("obstacle", ("value",) + reason[:3])
        raises = rounds.carry_out()
    after = rounds.values_so_far()
    return ("values", after, price_of(plan, values, after))


def reasons(plan, measures, codes, values):
    """The reasons of the upgrade; raises TooManyReasons."""
    site = Site(plan, measures)
    if _limit_obstacle(site, codes) is not None:
        return ()
    found = []
    rounds = Rounds(site, codes, values)
    raises = rounds.carry_out()
    while raises:
        for reason in raises:
            found.append(reason)
            if len(found) > MOST_REASONS:
                raise TooManyReasons(len(found))
            if _is_too_great(plan, reason):
                return tuple(found)
        raises = rounds.carry_out()
    return tuple(found)


def check_reasons(plan, measures, codes, values, rows):
    """The values to which the reasons lead, or None if one of them is not right."""
    demands = demands_of(Site(plan, measures), codes)
    worths = flat_values(values)
    for kind, number, attribute, rule, value in rows:
        key = (kind, number, attribute, rule)
        if key not in demands:
            return None
        place = place_of(plan, (kind, number), attribute)
        if not worths[place] < value <= worth_of(demands[key], worths):
            return None
        worths[place] = value
    return values_from(plan, worths)


def demands_of(site, codes):
    """The settled expressions of all that rules require of the present elements, in their order.

    Their keys are (kind, number, attribute, rule), the begin of a reason.
    """
    found = {}
    for element in present(site.plan, site.measures):
        for rule, attribute, expression in demands_at(site, code_for(codes, element), element):
            found[element + (attribute, rule)] = expression
    return found


def _askers(demands, many_places):
    """For each place the indexes of the demands that ask for its value."""
    found = [[] for _ in range(many_places)]
    for at, (_, _, expression) in enumerate(demands):
        for place in places_in(expression):
            found[place].append(at)
    return found


def _is_too_great(plan, reason):
    kind, number, attribute, _, value = reason
    return value > greatest_of(plan, (kind, number), attribute)


def _limit_obstacle(site, codes):
    """The first limit that does not hold, with the first element at which it does not, or None."""
    found = None
    for element in present(site.plan, site.measures):
        code = code_for(codes, element)
        for number, limit in enumerate(code.limits):
            if found is not None and number >= found[1]:
                break
            if exceeded(site, code, element, limit) is not None:
                found = ("limit", number) + element
    return found
