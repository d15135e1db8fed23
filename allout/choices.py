"""Choices: which measures are the cheapest, together with the raises that they leave to do."""

from allout.loads import persons
from allout.minutes import check_minutes, most_out_by
from allout.upgrades import least_upgrade


def cheapest(plan, codes, values):
    """The cheapest measures with the values of their upgrade and the whole price, or None."""
    found = _choices(plan, codes, values)
    return found[0] if found else None


def cheapest_in_time(plan, codes, areas, values, minute):
    """The cheapest measures with which all persons can be outside by a minute, or None."""
    check_minutes(minute)
    everybody = sum(persons(plan, areas))
    for choice in _choices(plan, codes, values):
        measures, raised, _ = choice
        if most_out_by(plan, measures, areas, raised, minute) == everybody:
            return choice
    return None


def _choices(plan, codes, values):
    """All sets of measures that have an upgrade, with its values and the whole price, the best first."""
    found = []
    for measures in _sets_of_measures(plan):
        told = least_upgrade(plan, measures, codes, values)
        if told[0] == "values":
            _, raised, price = told
            price += sum([plan.measure_prices[measure] for measure in measures])
            found.append((price, len(measures), measures, raised))
    return [(measures, raised, price) for price, _, measures, raised in sorted(found)]


def _sets_of_measures(plan):
    """All sets of measures of the plan, each as an ascending tuple, a list."""
    found = [()]
    for measure in range(len(plan.measure_prices)):
        found = found + [before + (measure,) for before in found]
    return found
