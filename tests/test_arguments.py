"""Point 3: no function of the interface modifies its arguments, and all values are of the kinds it names."""

import unittest

from allout import choices, codes, judging, loads, minutes, plans, projects, texts, upgrades, ways
from allout.errors import HouseError
from houses import example
from test_rules import INTERFACE, METHODS

TEXT = "\n".join((
    "areas 1 10 5 30 20",
    "rule door width when (atLeast load 1) require (times 9 (quantity load))",
    "rule space width when (kind corridor) require (plus 10 (greatest width doors))",
    "limit space distance when always require 20 except when (use home) require (nothing)",
))
AREAS = (1, 10, 5, 30, 20)
COURSE = ((1, 0, 0, 4), (1, 1, 1, 2), (3, 1, 1, 4))
ROWS = (("door", 0, "width", 0, 90), ("door", 1, "width", 0, 108))
ROOM = ("space", 0)
RELATED = ("greatest", "width", "doors")


def calls(plan, code, values):
    """Calls of all functions of the interface, as (function, arguments)."""
    after = (values[0], ((90, 0, 200),) + values[1][1:])
    pair = ((code,) * len(plan.spaces), (code,) * len(plan.doors))
    line = codes.read_line(TEXT.split("\n")[3])
    found = [
        (plans.open_doors, (plan, (0,))), (plans.present, (plan, (0,))), (plans.check_element, (plan, ROOM)),
        (plans.check_element, (plan, ("space", 9))), (plans.values_of, (plan,)),
        (plans.price_of, (plan, values, after)), (plans.Plan, tuple(vars(plan).values())),
        (ways.distances, (plan, (0,))), (ways.way_length, (plan, (0,), 0, (0, 1))),
        (ways.detour, (plan, (0,), 0, ("door", 2))), (ways.detour, (plan, (0,), 0, ROOM)),
        (loads.persons, (plan, AREAS)), (loads.loads, (plan, (0,), AREAS)),
        (codes.first_wrong_line, (TEXT,)), (codes.read_line, (TEXT,)), (codes.print_line, (line,)),
        (codes.condition_of, ("(not (kind room))",)), (codes.condition_of, ("kind",)), (codes.Code, (TEXT,)),
        (code.text, ()),
        (judging.holds, (plan, (0,), code, ROOM, ("kind", "room"))), (judging.related, (plan, (0,), ROOM, "doors")),
        (judging.worth, (plan, (0,), code, values, ROOM, RELATED)),
        (choices.cheapest, (plan, code, values)), (choices.cheapest_in_time, (plan, pair, AREAS, values, 40)),
        (choices.cheapest_in_time, (plan, pair, AREAS, values, 41)),
        (minutes.rate, (values, 0)), (minutes.walk, (plan, 0)), (minutes.outside_by, (plan, COURSE, 3)),
        (texts.plan_text, (plan,)), (texts.plan_of, (texts.plan_text(plan),)), (texts.plan_of, ("prices\n",)),
    ]
    for function in (ways.route, ways.choke_points, ways.common_path, ways.two_ways):
        found.append((function, (plan, (0,), 0)))
    for name in ("persons", "load", "distance", "commonPath", "chokePoints", "doors", "area", "storey"):
        found.append((loads.quantity, (plan, (0,), AREAS, ROOM, name)))
    for some_codes in (code, pair):
        found += [
            (judging.demanded, (plan, (0,), some_codes, values, ("door", 2), 0)),
            (judging.allowed, (plan, (0,), some_codes, ROOM, 0)),
            (judging.required, (plan, (0,), some_codes, values, ("door", 2), "width")),
            (judging.violations, (plan, (0,), some_codes, values)),
            (judging.is_compliant, (plan, (0,), some_codes, values)),
            (upgrades.least_upgrade, (plan, (), some_codes, values)),
            (upgrades.reasons, (plan, (), some_codes, values)),
            (upgrades.check_reasons, (plan, (), some_codes, values, ROWS)),
        ]
    for minute in (0, 6, 40, 41):
        for function in (minutes.out_by, minutes.earliest, minutes.clear_by, minutes.helpful):
            found.append((function, (plan, (0,), AREAS, values, minute)))
        found.append((minutes.cut_worth, (plan, (0,), AREAS, values, minute, (0, 0, 0))))
    found.append((minutes.course_fault, (plan, (), AREAS, values, COURSE)))
    return found


def told(value):
    """What is to be seen of a value, with the fields of objects."""
    if isinstance(value, tuple):
        return tuple(told(part) for part in value)
    if isinstance(value, (plans.Plan, codes.Code)):
        return (type(value).__name__, told(tuple(sorted(vars(value).items()))))
    return value


def is_of_the_kinds(value):
    if isinstance(value, tuple):
        return type(value) is tuple and all(is_of_the_kinds(part) for part in value)
    return value is None or type(value) in (int, str, bool, plans.Plan, codes.Code, projects.Project)


class ArgumentsTest(unittest.TestCase):
    def test_functions(self):
        plan = example()
        code = codes.Code(TEXT)
        for function, arguments in calls(plan, code, plans.values_of(plan)):
            before = told((arguments, plan, code))
            answers = []
            for _ in range(2):
                try:
                    answers.append(function(*arguments))
                except HouseError as error:
                    answers.append((type(error).__name__,) + tuple(vars(error).values()))
                self.assertEqual(told((arguments, plan, code)), before, function.__name__)
            self.assertTrue(is_of_the_kinds(answers[0]), function.__name__)
            # No call has anything to do with one before it.
            self.assertEqual(told(answers[0]), told(answers[1]), function.__name__)

    def test_every_function_of_the_interface_is_called(self):
        plan = example()
        called = {function.__name__ for function, _ in calls(plan, codes.Code(TEXT), plans.values_of(plan))}
        for module in (choices, codes, judging, loads, minutes, plans, texts, upgrades, ways):
            for name in INTERFACE[module.__name__.split(".")[1]]:
                self.assertIn(name, called)

    def test_methods_of_a_project(self):
        plan = example()
        project = projects.Project(plan, TEXT)
        changes = (
            (project.adopt, (TEXT,)), (project.raise_to, (("door", 0), "width", 100)), (project.install, (0,)),
            (project.upgrade, ()), (project.fork, ()), (project.violations, ()), (project.clear_by, (40,)),
            (project.measures, ()), (project.present_values, ()), (project.editions, ()), (project.codes, ()),
            (project.log, ()), (project.undo, ()),
        )
        for method, arguments in changes:
            answer = method(*arguments)
            self.assertTrue(is_of_the_kinds(answer), method.__name__)
            self.assertEqual(told(plan), told(example()), method.__name__)
        self.assertEqual({method.__name__ for method, _ in changes} | {"__init__"},
                         set(METHODS["projects", "Project"]))


if __name__ == "__main__":
    unittest.main()
