"""A plan under measures: what conditions and expressions ask of it, apart from values."""

from allout.loads import loads, quantity
from allout.plans import doors_at, is_outside, other_side, sides_of
from allout.ways import route


class Site:
    """A plan under measures, where what was worked out once is kept."""

    def __init__(self, plan, measures):
        self.plan = plan
        self.measures = measures
        self.kept_loads = {}
        self.kept_quantities = {}
        self.kept_related = {}

    def quantity_at(self, areas, element, name):
        """The quantity of an element."""
        if name == "load":
            return self._load(areas, element)
        key = (areas, element, name)
        if key not in self.kept_quantities:
            self.kept_quantities[key] = quantity(self.plan, self.measures, areas, element, name)
        return self.kept_quantities[key]

    def related_to(self, element, relation):
        """The related elements of an element, a tuple."""
        key = (element, relation)
        if key not in self.kept_related:
            self.kept_related[key] = self._find_related(element, relation)
        return self.kept_related[key]

    def condition_holds(self, areas, element, condition):
        """Tell whether the tree of a condition holds at an element."""
        word = condition[0]
        if word == "always":
            return True
        if word == "kind":
            return condition[1] in [self.plan.spaces[space][0] for space in self._spaces_of(element)]
        if word == "use":
            return condition[1] in self._uses_of(element)
        if word == "installed":
            return condition[1] in self.measures
        if word == "atLeast":
            return self.quantity_at(areas, element, condition[1]) >= condition[2]
        if word == "not":
            return not self.condition_holds(areas, element, condition[1])
        if word == "and":
            return all(self.condition_holds(areas, element, part) for part in condition[1:])
        return any(self.condition_holds(areas, element, part) for part in condition[1:])

    def _load(self, areas, element):
        if areas not in self.kept_loads:
            self.kept_loads[areas] = loads(self.plan, self.measures, areas)
        of_spaces, of_doors = self.kept_loads[areas]
        kind, number = element
        return of_spaces[number] if kind == "space" else of_doors[number]

    def _spaces_of(self, element):
        """The numbers of the space itself, or of both spaces of a door."""
        kind, number = element
        return (number,) if kind == "space" else sides_of(self.plan, number)

    def _uses_of(self, element):
        spaces = self._spaces_of(element)
        if element[0] == "door":
            spaces = [space for space in spaces if not is_outside(self.plan, space)]
        return [self.plan.spaces[space][1] for space in spaces]

    def _find_related(self, element, relation):
        kind, number = element
        if kind == "door":
            found = sides_of(self.plan, number) if relation == "sides" else ()
            return tuple(("space", side) for side in found)
        if relation == "doors":
            return tuple(("door", door) for door in doors_at(self.plan, self.measures, number))
        return tuple(("space", space) for space in self._related_spaces(number, relation))

    def _related_spaces(self, space, relation):
        if relation == "neighbors":
            doors = doors_at(self.plan, self.measures, space)
            return sorted({other_side(self.plan, door, space) for door in doors})
        if relation == "next":
            return self._next_spaces(space)
        if relation == "before":
            numbers = range(len(self.plan.spaces))
            return [number for number in numbers if space in self._next_spaces(number)]
        return []

    def _next_spaces(self, space):
        """The number of the next space of the route, alone in a list, or no number."""
        way = route(self.plan, self.measures, space)
        if not way:
            return []
        return [way[1][1]]
