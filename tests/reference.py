"""What the document says of loads, codes and upgrades, as plainly as can be and from trees alone."""

from allout.plans import open_doors, present
from test_ways_by_search import doors_of, simple_ways

USES = ("assembly", "office", "shop", "storage", "home")
ATTRIBUTES = ("width", "rating", "height")
FAR = 999999
MOST = 1000000


class Reference:
    """A plan under measures, with a list of lines for each element in a dict."""

    def __init__(self, plan, measures, lines):
        self.plan, self.measures, self.lines = plan, measures, lines
        self.ways = [simple_ways(plan, measures, space) for space in range(len(plan.spaces))]
        self.present = present(plan, measures)

    def length(self, space, way):
        numbers = [space] + [number for kind, number in way if kind == "space"]
        return sum(self.plan.spaces[number][3] for number in numbers[:-1])

    def route(self, space):
        if not self.ways[space]:
            return None
        return min(self.ways[space], key=lambda way: (self.length(space, way), doors_of(way)))

    def chokes(self, space):
        passed = set.intersection(*[set(way) for way in self.ways[space]])
        return [row for row in self.route(space) if row in passed and not self.is_outside(row)]

    def is_outside(self, element):
        return element[0] == "space" and self.plan.spaces[element[1]][0] == "outside"

    def persons(self, space, areas):
        kind, use, area = self.plan.spaces[space][:3]
        one = areas[USES.index(use)]
        return 0 if kind == "outside" else area // one + (area % one > 0)

    def load(self, element, areas):
        total = self.persons(element[1], areas) if element[0] == "space" else 0
        for space in range(len(self.plan.spaces)):
            if element != ("space", space) and element in (self.route(space) or ()):
                total += self.persons(space, areas)
        return total

    def quantity(self, element, areas, name):
        kind, number = element
        if name == "load":
            return self.load(element, areas)
        if kind == "door":
            return 0
        if name == "persons":
            return self.persons(number, areas)
        if name == "area":
            return self.plan.spaces[number][2]
        if name == "storey":
            return self.plan.spaces[number][4]
        if name == "doors":
            return len(self.doors(number))
        if self.route(number) is None:
            return FAR
        if name == "distance":
            return self.length(number, self.route(number))
        if name == "chokePoints":
            return len(self.chokes(number))
        return self.common_path(number)

    def common_path(self, space):
        if self.is_outside(("space", space)):
            return 0
        total = self.plan.spaces[space][3]
        route, chokes = self.route(space), self.chokes(space)
        if chokes:
            for kind, number in route[:route.index(chokes[-1]) + 1]:
                total += self.plan.spaces[number][3] if kind == "space" else 0
        return total

    def doors(self, space):
        return [door for door in open_doors(self.plan, self.measures) if space in self.plan.doors[door][:2]]

    def related(self, element, relation):
        kind, number = element
        if kind == "door":
            return [("space", side) for side in self.plan.doors[number][:2]] if relation == "sides" else []
        if relation == "doors":
            return [("door", door) for door in self.doors(number)]
        if relation == "neighbors":
            sides = {side for door in self.doors(number) for side in self.plan.doors[door][:2]}
            return [("space", side) for side in sorted(sides - {number})]
        if relation == "next":
            return list((self.route(number) or ())[1:2])
        if relation == "before":
            spaces = range(len(self.plan.spaces))
            return [("space", space) for space in spaces if element in (self.route(space) or ())[1:2]]
        return []

    def holds(self, element, areas, condition):
        word, *parts = condition
        spaces = [element[1]] if element[0] == "space" else self.plan.doors[element[1]][:2]
        if word == "always":
            return True
        if word == "kind":
            return any(self.plan.spaces[space][0] == parts[0] for space in spaces)
        if word == "use":
            return any(self.plan.spaces[space][1] == parts[0] for space in spaces
                       if element[0] == "space" or not self.is_outside(("space", space)))
        if word == "installed":
            return parts[0] in self.measures
        if word == "atLeast":
            return self.quantity(element, areas, parts[0]) >= parts[1]
        told = [self.holds(element, areas, part) for part in parts]
        return {"not": not told[0], "and": all(told), "or": any(told)}[word]

    def worth(self, values, element, areas, tree):
        word, *parts = tree
        if word in ("own", "greatest", "sum"):
            others = [element] if word == "own" else self.related(element, parts[1])
            told = [values[other + (parts[0],)] for other in others]
            found = sum(told) if word == "sum" else max(told, default=0)
        elif word in ("number", "quantity"):
            found = parts[0] if word == "number" else self.quantity(element, areas, parts[0])
        else:
            found = self.worth_of_parts(values, element, areas, tree)
        return min(found, MOST)

    def worth_of_parts(self, values, element, areas, tree):
        word, *parts = tree
        if word == "times":
            return parts[0] * self.worth(values, element, areas, parts[1])
        first = self.worth(values, element, areas, parts[0])
        if word == "table":
            return max([value for start, value in parts[1] if start <= first], default=0)
        if word == "share":
            return first // parts[1] + (first % parts[1] > 0)
        second = self.worth(values, element, areas, parts[1])
        return first + second if word == "plus" else max(first, second)

    def decided(self, element, areas, requirement):
        value, exceptions = requirement
        for condition, inner in exceptions:
            if self.holds(element, areas, condition):
                return self.decided(element, areas, inner)
        return None if value == ("nothing",) else value

    def demands(self, values, element, word):
        """For each line with this word its name and what it requires or allows, or None."""
        areas = self.lines[element][0][1]
        for line in self.lines[element]:
            if line[0] != word:
                continue
            _, subject, name, condition, requirement = line
            tree = None
            if subject == element[0] and self.holds(element, areas, condition):
                tree = self.decided(element, areas, requirement)
            yield name, None if tree is None else self.worth(values, element, areas, tree)

    def violations(self, values):
        found = []
        for element in self.present:
            areas = self.lines[element][0][1]
            for number, (name, least) in enumerate(self.demands(values, element, "rule")):
                if least is not None and values[element + (name,)] < least:
                    found.append(("rule", number) + element + (values[element + (name,)], least))
            for number, (name, most) in enumerate(self.demands(values, element, "limit")):
                quantity = self.quantity(element, areas, name)
                if most is not None and quantity > most:
                    found.append(("limit", number) + element + (quantity, most))
        return tuple(found)

    def greatest(self, element, attribute):
        kind, number = element
        triple = self.plan.spaces[number][6] if kind == "space" else self.plan.doors[number][4]
        return triple[ATTRIBUTES.index(attribute)]

    def upgrade(self, values):
        """The obstacle or None, the values after all rounds, and the reasons."""
        limits = [row[1:4] for row in self.violations(values) if row[0] == "limit"]
        if limits:
            # The order of elements is kept among those of the same number.
            return ("limit",) + min(limits, key=lambda row: row[0]), None, ()
        found = []
        while True:
            raises = self.round(values)
            for reason in raises:
                found.append(reason)
                if reason[4] > self.greatest(reason[:2], reason[2]):
                    return ("value",) + reason[:3], None, tuple(found)
            if not raises:
                return None, values, tuple(found)
            values = {**values, **{reason[:3]: reason[4] for reason in raises}}

    def round(self, values):
        raises = []
        for element in self.present:
            demands = list(self.demands(values, element, "rule"))
            for attribute in ATTRIBUTES:
                rows = [(least, -number) for number, (name, least) in enumerate(demands)
                        if name == attribute and least is not None]
                least, number = max(rows, default=(0, 0))
                if least > values[element + (attribute,)]:
                    raises.append(element + (attribute, -number, least))
        return raises
