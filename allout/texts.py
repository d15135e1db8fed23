"""Texts of plans: what a plan is told as, and the plan that a text tells."""

from allout.errors import FaultyLine
from allout.grammar import NotInGrammar, Reader
from allout.plans import (
    ATTRIBUTES, GREATEST_AREA, GREATEST_LENGTH, GREATEST_MEASURE_PRICE, GREATEST_PRICE, GREATEST_STOREY,
    GREATEST_VALUE, KINDS, MOST_DOORS, MOST_MEASURES, MOST_SPACES, USES, Plan)


class Draft:
    """What the lines of a text that were read so far tell of a plan."""

    def __init__(self):
        self.prices = None
        self.measure_prices = []
        self.spaces = []
        self.doors = []

    def read(self, line):
        """Read one more line; raises NotInGrammar if no plan has such a line at this place."""
        # Two blanks side by side, or one at an end, make an empty word, which is nothing.
        reader = Reader(line.split(" "))
        word = reader.take(self._words())
        if word == "prices":
            self.prices = _triple(reader, GREATEST_PRICE)
        elif word == "measure":
            self.measure_prices.append(reader.number(0, GREATEST_MEASURE_PRICE))
        elif word == "space":
            self.spaces.append(_space(reader))
        else:
            self.doors.append(_door(reader, len(self.spaces), len(self.measure_prices)))
        reader.finish()

    def is_whole(self):
        """Tell whether the lines are the text of a plan; it needs a space."""
        return self.spaces != []

    def whole_plan(self):
        """The plan that the lines tell."""
        return Plan(tuple(self.spaces), tuple(self.doors), tuple(self.measure_prices), self.prices)

    def _words(self):
        """The words with which the next line can begin."""
        if self.prices is None:
            return ("prices",)
        found = []
        if len(self.measure_prices) < MOST_MEASURES and not self.spaces:
            found.append("measure")
        if len(self.spaces) < MOST_SPACES and not self.doors:
            found.append("space")
        if len(self.doors) < MOST_DOORS and self.spaces:
            found.append("door")
        return tuple(found)


def plan_text(plan):
    """The text of a plan."""
    lines = [("prices",) + plan.prices]
    lines += [("measure", price) for price in plan.measure_prices]
    for space in plan.spaces:
        lines.append(("space",) + space[:5] + _words_of_values(space[5], space[6]))
    for one, two, measure, now, most in plan.doors:
        lines.append(("door", one, two, "free" if measure is None else measure) + _words_of_values(now, most))
    return "".join([" ".join([str(word) for word in line]) + "\n" for line in lines])


def plan_of(text):
    """The plan that a text tells; raises FaultyLine."""
    lines = text.split("\n")
    if lines[-1] != "":
        raise FaultyLine(len(lines))
    draft = Draft()
    for number, line in enumerate(lines[:-1], start=1):
        try:
            draft.read(line)
        except NotInGrammar:
            raise FaultyLine(number) from None
    if not draft.is_whole():
        raise FaultyLine(len(lines))
    return draft.whole_plan()


def _words_of_values(now, most):
    return ("now",) + now + ("most",) + most


def _space(reader):
    kind = reader.take(KINDS)
    use = reader.take(USES)
    area = reader.number(0, GREATEST_AREA)
    length = reader.number(1, GREATEST_LENGTH)
    storey = reader.number(0, GREATEST_STOREY)
    return (kind, use, area, length, storey) + _values(reader)


def _door(reader, many_spaces, many_measures):
    one = reader.number(0, many_spaces - 1)
    two = reader.number(0, many_spaces - 1)
    if one == two:
        raise NotInGrammar()
    return (one, two, _measure(reader, many_measures)) + _values(reader)


def _measure(reader, many_measures):
    """The number of a measure, or None for a door that is free."""
    if reader.peek() == "free":
        reader.expect("free")
        return None
    return reader.number(0, many_measures - 1)


def _values(reader):
    """The pair of the triples of the present and of the greatest values."""
    reader.expect("now")
    now = _triple(reader, GREATEST_VALUE)
    reader.expect("most")
    most = _triple(reader, GREATEST_VALUE)
    if any(value > greatest for value, greatest in zip(now, most)):
        raise NotInGrammar()
    return (now, most)


def _triple(reader, most):
    return tuple([reader.number(0, most) for _ in ATTRIBUTES])
