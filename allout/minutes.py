"""Minutes: who passes which door when, and by which minute persons can be outside."""

from allout.errors import TooManyMinutes
from allout.flows import Flow
from allout.loads import persons, rounded_up
from allout.plans import (
    greatest_of, is_outside, length_of, open_doors, other_side, sides_of, value_of, with_value)
from allout.ways import steps_around

WIDTH_FOR_ONE = 20
LENGTH_OF_A_MINUTE = 30
MOST_MINUTES = 40


class Crowd:
    """The persons of a plan while a course goes on: who comes to which doors when, and who has left."""

    def __init__(self, plan, measures, areas, values):
        self.plan = plan
        self.rates = {door: rate(values, door) for door in open_doors(plan, measures)}
        self.coming = [[(walk(plan, space), many)] for space, many in enumerate(persons(plan, areas))]
        self.gone = [0] * len(plan.spaces)
        self.passed = {}

    def can_pass(self, row):
        """Tell whether a row is possible behind those that were carried out."""
        minute, door, space, many = row
        if minute < 0 or many < 1 or door not in self.rates:
            return False
        if space not in sides_of(self.plan, door) or is_outside(self.plan, space):
            return False
        if self.passed.get((minute, door), 0) + many > self.rates[door]:
            return False
        return many <= self._at_doors(space, minute)

    def carry_out(self, row):
        """Let the persons of a possible row pass."""
        minute, door, space, many = row
        self.passed[(minute, door)] = self.passed.get((minute, door), 0) + many
        self.gone[space] += many
        there = other_side(self.plan, door, space)
        self.coming[there].append((minute + 1 + walk(self.plan, there), many))

    def _at_doors(self, space, minute):
        come = sum([many for since, many in self.coming[space] if since <= minute])
        return come - self.gone[space]


def rate(values, door):
    """How many persons can begin to pass a door in one minute, both directions together."""
    return value_of(values, ("door", door), "width") // WIDTH_FOR_ONE


def walk(plan, space):
    """How many minutes pass in a space before somebody is at its doors."""
    return rounded_up(length_of(plan, space), LENGTH_OF_A_MINUTE)


def course_fault(plan, measures, areas, values, course):
    """The place of the first row such that the rows up to it are no possible course, or None."""
    crowd = Crowd(plan, measures, areas, values)
    for place, row in enumerate(course):
        # No two rows are for the same minute, door and space, so these alone decide the order.
        if place > 0 and row[:3] <= course[place - 1][:3]:
            return place
        if not crowd.can_pass(row):
            return place
        crowd.carry_out(row)
    return None


def outside_by(plan, course, minute):
    """How many persons a possible course has outside by a minute."""
    total = 0
    for begin, door, space, many in course:
        if begin < minute and is_outside(plan, other_side(plan, door, space)):
            total += many
    return total


def cut_worth(plan, measures, areas, values, minute, cut):
    """The worth of cut times for a minute: no course has more persons outside by it."""
    total = 0
    for space, many in enumerate(persons(plan, areas)):
        if walk(plan, space) < min(cut[space], minute):
            total += many
    for door, here, there in steps_around(plan, measures, ()):
        if is_outside(plan, there):
            total += rate(values, door) * (minute - cut[here])
        else:
            total += rate(values, door) * max(0, cut[there] - 1 - walk(plan, there) - cut[here])
    return total


def out_by(plan, measures, areas, values, minute):
    """The most persons that can be outside by a minute, with a course and with cut times for it."""
    flow = _flow_by(plan, measures, areas, values, minute)
    return (flow.number(), _course_of(plan, measures, flow), flow.cut_times())


def earliest(plan, measures, areas, values, minutes):
    """A course that has the most persons outside by every minute up to this one."""
    return _course_of(plan, measures, _flow_by(plan, measures, areas, values, minutes))


def clear_by(plan, measures, areas, values, limit):
    """The least minute by which all can be outside, with a course, or cut times against the limit."""
    check_minutes(limit)
    flow = _flow_of(plan, measures, areas, values)
    everybody = sum(persons(plan, areas))
    cut = None
    while flow.number() < everybody:
        cut = flow.cut_times()
        if flow.minute >= limit:
            return ("later", cut)
        flow.advance()
    return ("clear", flow.minute, _course_of(plan, measures, flow), cut)


def helpful(plan, measures, areas, values, minute):
    """The doors that let more persons be outside by a minute at their greatest width, with the gains."""
    so_many = most_out_by(plan, measures, areas, values, minute)
    found = []
    for door in open_doors(plan, measures):
        width = greatest_of(plan, ("door", door), "width")
        widened = with_value(values, ("door", door), "width", width)
        gain = most_out_by(plan, measures, areas, widened, minute) - so_many
        if gain > 0:
            found.append((door, gain))
    return tuple(found)


def most_out_by(plan, measures, areas, values, minute):
    """The most persons that can be outside by a minute."""
    return _flow_by(plan, measures, areas, values, minute).number()


def check_minutes(minutes):
    """Refuse more minutes than are allowed."""
    if minutes > MOST_MINUTES:
        raise TooManyMinutes(minutes)


def _flow_of(plan, measures, areas, values):
    """The flow of a plan, in which nobody is outside yet."""
    walks = [walk(plan, space) for space in range(len(plan.spaces))]
    passages = []
    for door, here, there in steps_around(plan, measures, ()):
        passages.append((here, None if is_outside(plan, there) else there, rate(values, door)))
    return Flow(persons(plan, areas), walks, passages)


def _flow_by(plan, measures, areas, values, minute):
    """The flow of a plan that has the most persons outside by every minute up to this one."""
    check_minutes(minute)
    flow = _flow_of(plan, measures, areas, values)
    for _ in range(minute):
        flow.advance()
    return flow


def _course_of(plan, measures, flow):
    """The course of a flow."""
    passing = {}
    for (door, here, _), row in zip(steps_around(plan, measures, ()), flow.passing()):
        for minute, many in enumerate(row):
            passing[(minute, door, here)] = many
    found = []
    for minute, door, here in sorted(passing):
        # Those who would pass each other at a door can as well stay where they are.
        there = other_side(plan, door, here)
        many = passing[(minute, door, here)] - passing.get((minute, door, there), 0)
        if many > 0:
            found.append((minute, door, here, many))
    return tuple(found)
