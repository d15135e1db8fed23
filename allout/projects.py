"""Projects: a plan whose values, measures and codes change, and whose changes can be undone."""

from allout.codes import Code
from allout.errors import (
    AlreadyInstalled, NoSuchMeasure, NotARaise, NotPresent, NoUpgrade, TooGreat, TooManyChanges, TooManyEditions)
from allout.judging import violations
from allout.minutes import clear_by
from allout.plans import check_element, greatest_of, present, value_of, values_of, with_value
from allout.upgrades import least_upgrade

MOST_CHANGES = 20
MOST_EDITIONS = 4


class State:
    """What a project has between two changes; it stays as it is, and a change makes another one."""

    def __init__(self, present_now, installed, adopted, of_spaces, of_doors):
        self.present_now = present_now
        self.installed = installed
        self.adopted = adopted
        self.of_spaces = of_spaces
        self.of_doors = of_doors

    def with_present(self, present_now):
        """The state with other present values."""
        return State(present_now, self.installed, self.adopted, self.of_spaces, self.of_doors)

    def with_installed(self, measure):
        """The state with one more measure."""
        installed = tuple(sorted(self.installed + (measure,)))
        return State(self.present_now, installed, self.adopted, self.of_spaces, self.of_doors)

    def with_adopted(self, code):
        """The state with one more edition."""
        return State(self.present_now, self.installed, self.adopted + (code,), self.of_spaces, self.of_doors)

    def with_latest_at(self, changed):
        """The state in which these parts of the plan have the latest edition."""
        latest = len(self.adopted) - 1
        of_spaces = [latest if ("space", at) in changed else edition for at, edition in enumerate(self.of_spaces)]
        of_doors = [latest if ("door", at) in changed else edition for at, edition in enumerate(self.of_doors)]
        return State(self.present_now, self.installed, self.adopted, tuple(of_spaces), tuple(of_doors))

    def codes_in_force(self):
        """The code of each space and of each door."""
        return (tuple([self.adopted[edition] for edition in self.of_spaces]),
                tuple([self.adopted[edition] for edition in self.of_doors]))


class Project:
    """A plan with present values, installed measures and editions of its code."""

    def __init__(self, plan, text):
        self.plan = plan
        self.first_text = text
        self.now = State(values_of(plan), (), (Code(text),), (0,) * len(plan.spaces), (0,) * len(plan.doors))
        self.past = []

    def measures(self):
        """The installed measures, ascending."""
        return self.now.installed

    def present_values(self):
        """The present values."""
        return self.now.present_now

    def editions(self):
        """The numbers of the editions of all spaces, and those of all doors."""
        return (self.now.of_spaces, self.now.of_doors)

    def codes(self):
        """The canonical texts of all editions."""
        return tuple([code.text() for code in self.now.adopted])

    def log(self):
        """The names of the changes that can be undone, the first one first."""
        return tuple([name for name, _ in self.past])

    def adopt(self, text):
        """Make a code the next edition; returns its number."""
        code = Code(text)
        self._check_changes()
        if len(self.now.adopted) >= MOST_EDITIONS:
            raise TooManyEditions()
        self._change("adopt", self.now.with_adopted(code))
        return len(self.now.adopted) - 1

    def raise_to(self, element, attribute, value):
        """Raise a value of an element, which gets the latest edition."""
        check_element(self.plan, element)
        self._check_changes()
        if element not in present(self.plan, self.now.installed):
            raise NotPresent()
        if value <= value_of(self.now.present_now, element, attribute):
            raise NotARaise()
        if value > greatest_of(self.plan, element, attribute):
            raise TooGreat()
        raised = with_value(self.now.present_now, element, attribute, value)
        self._change("raise", self.now.with_present(raised).with_latest_at((element,)))

    def install(self, measure):
        """Install a measure; the doors that it opens get the latest edition."""
        if not 0 <= measure < len(self.plan.measure_prices):
            raise NoSuchMeasure()
        self._check_changes()
        if measure in self.now.installed:
            raise AlreadyInstalled()
        opened = [("door", number) for number, door in enumerate(self.plan.doors) if door[2] == measure]
        self._change("install", self.now.with_installed(measure).with_latest_at(opened))

    def upgrade(self):
        """Carry out the least upgrade; returns the price of its raises."""
        self._check_changes()
        told = least_upgrade(self.plan, self.now.installed, self.now.codes_in_force(), self.now.present_now)
        if told[0] == "obstacle":
            raise NoUpgrade(told[1])
        _, raised, price = told
        self._change("upgrade", self.now.with_present(raised))
        return price

    def undo(self):
        """Take back the last change; returns False if there is none."""
        if not self.past:
            return False
        self.now = self.past.pop()[1]
        return True

    def fork(self):
        """Another project with all that this one has, which from now on goes its own way."""
        other = Project(self.plan, self.first_text)
        other.now = self.now
        other.past = list(self.past)
        return other

    def violations(self):
        """The violations of the present values, each element by the code of its edition."""
        return violations(self.plan, self.now.installed, self.now.codes_in_force(), self.now.present_now)

    def clear_by(self, limit):
        """The clearing of the present values up to a limit, with the areas of the latest edition."""
        areas = self.now.adopted[-1].areas
        return clear_by(self.plan, self.now.installed, areas, self.now.present_now, limit)

    def _change(self, name, state):
        self.past.append((name, self.now))
        self.now = state

    def _check_changes(self):
        """Refuse a change that could not be undone."""
        if len(self.past) >= MOST_CHANGES:
            raise TooManyChanges()
