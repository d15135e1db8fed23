"""Points 50 to 57: projects, their changes, what refuses them, and undoing."""

import random
import unittest

from allout.codes import Code
from allout.errors import (
    AlreadyInstalled, FaultyLine, HouseError, NoSuchElement, NoSuchMeasure, NotARaise, NotPresent, NoUpgrade,
    TooGreat, TooManyChanges, TooManyEditions, TooManyMinutes)
from allout.judging import violations
from allout.minutes import clear_by
from allout.plans import Plan, values_of, with_value
from allout.projects import Project
from allout.upgrades import least_upgrade
from houses import NONE, door, example, space
from lines import AREAS, limit, rule

WIDE = "\n".join((
    AREAS,
    "rule door width when (atLeast load 1) require (times 9 (quantity load))",
    "rule space width when (kind corridor) require (plus 10 (greatest width doors))",
))
PLAIN = AREAS
HIGH = f"{AREAS}\n{rule('300', about='space height')}\n{rule('205', about='door height')}"
RATED = f"{AREAS}\n{rule('40', about='space rating')}"
TOO_MUCH = f"{AREAS}\n{rule('1000', about='door rating')}"
WRONG = f"{AREAS}\nrule\n"
MANY = 20


def house():
    """Two rooms and an outside, with doors for two measures; measure 2 opens nothing."""
    spaces = (space(), space(40), space(1, "outside"))
    doors = (door(0, 1), door(1, 2), door(0, 2, 0), door(1, 2, 1), door(0, 1, 0))
    return Plan(spaces, doors, (5, 6, 7), (1, 2, 3))


def seen(project):
    """All that a project tells of itself."""
    return (project.measures(), project.present_values(), project.editions(), project.codes(), project.log(),
            project.violations(), project.clear_by(40))


class ProjectCase(unittest.TestCase):
    def refuses(self, error, project, call, *arguments):
        """The change is refused with exactly this error and changes nothing; returns the error."""
        before = seen(project)
        with self.assertRaises(HouseError) as caught:
            call(*arguments)
        self.assertIs(type(caught.exception), error)
        self.assertEqual(seen(project), before)
        return caught.exception

    def full(self, plan=None, text=PLAIN):
        """A project with as many changes as can be undone, without any other change."""
        project = Project(house() if plan is None else plan, text)
        for _ in range(MANY):
            project.upgrade()
        self.assertEqual(project.log(), ("upgrade",) * MANY)
        return project


class BeginTest(ProjectCase):
    def test_new_project(self):
        project = Project(example(), "areas  1 10 5 30 20")
        self.assertEqual(project.measures(), ())
        self.assertEqual(project.present_values(), values_of(example()))
        self.assertEqual(project.editions(), ((0, 0, 0), (0, 0, 0)))
        self.assertEqual(project.codes(), ("areas 1 10 5 30 20",))
        self.assertEqual(project.log(), ())
        self.assertIs(project.undo(), False)

    def test_plan_without_doors(self):
        project = Project(Plan((space(),), (), (), NONE), PLAIN)
        self.assertEqual(project.editions(), ((0,), ()))
        self.assertEqual(project.present_values(), ((NONE,), ()))

    def test_text_that_is_no_code(self):
        for text, line in (("", 1), (WRONG, 2), (f"{AREAS}\n", 2), (f"{WIDE}\nrule", 4), (f"{WIDE}\n{AREAS}", 4)):
            with self.assertRaises(FaultyLine) as caught:
                Project(example(), text)
            self.assertEqual(caught.exception.line, line)

    def test_kinds_of_values(self):
        project = Project(example(), PLAIN)
        self.assertIs(type(project.measures()), tuple)
        self.assertIs(type(project.codes()), tuple)
        self.assertIs(type(project.log()), tuple)
        self.assertEqual([type(part) for part in project.editions()], [tuple, tuple])
        self.assertEqual([type(part) for part in project.present_values()], [tuple, tuple])

    def test_arguments_stay_as_they_were(self):
        plan = example()
        project = Project(plan, WIDE)
        project.install(0)
        project.upgrade()
        project.adopt(HIGH)
        project.raise_to(("door", 0), "width", 100)
        project.violations()
        project.fork().undo()
        self.assertEqual(vars(plan), vars(example()))


class AdoptTest(ProjectCase):
    def test_editions_are_numbered(self):
        project = Project(example(), PLAIN)
        self.assertEqual([project.adopt(text) for text in (WIDE, HIGH, WIDE)], [1, 2, 3])
        self.assertEqual(project.codes(), tuple(Code(text).text() for text in (PLAIN, WIDE, HIGH, WIDE)))
        self.assertEqual(project.log(), ("adopt",) * 3)

    def test_no_element_changes_its_edition(self):
        project = Project(example(), PLAIN)
        project.adopt(WIDE)
        self.assertEqual(project.editions(), ((0, 0, 0), (0, 0, 0)))
        self.assertEqual(project.violations(), ())

    def test_canonical_texts_are_told(self):
        project = Project(example(), PLAIN)
        project.adopt("areas 1   2 3 4 5\nlimit door load when(atLeast load 1)require( plus 1  2 )")
        expected = "areas 1 2 3 4 5\nlimit door load when (atLeast load 1) require (plus 1 2)"
        self.assertEqual(project.codes()[1], expected)

    def test_wrong_text(self):
        project = Project(example(), PLAIN)
        for text, line in ((WRONG, 2), ("", 1), (f"{PLAIN}\n", 2)):
            self.assertEqual(self.refuses(FaultyLine, project, project.adopt, text).line, line)

    def test_fifth_edition(self):
        project = Project(example(), PLAIN)
        for text in (WIDE, HIGH, PLAIN):
            project.adopt(text)
        self.refuses(TooManyEditions, project, project.adopt, PLAIN)
        # One that is undone makes room for another one.
        project.undo()
        self.assertEqual(project.adopt(WIDE), 3)
        self.refuses(TooManyEditions, project, project.adopt, PLAIN)

    def test_too_many_changes(self):
        project = self.full()
        self.refuses(TooManyChanges, project, project.adopt, PLAIN)

    def test_order_of_refusals(self):
        project = Project(house(), PLAIN)
        for _ in range(3):
            project.adopt(PLAIN)
        self.assertEqual(self.refuses(FaultyLine, project, project.adopt, WRONG).line, 2)
        for _ in range(MANY - 3):
            project.upgrade()
        self.assertEqual(self.refuses(FaultyLine, project, project.adopt, WRONG).line, 2)
        self.refuses(TooManyChanges, project, project.adopt, PLAIN)
        project.undo()
        self.refuses(TooManyEditions, project, project.adopt, PLAIN)


class RaiseTest(ProjectCase):
    def test_value_of_each_kind(self):
        for kind, number in (("space", 0), ("space", 1), ("door", 0), ("door", 1)):
            for at, attribute in enumerate(("width", "rating", "height")):
                project = Project(house(), PLAIN)
                self.assertIsNone(project.raise_to((kind, number), attribute, 7 + at))
                expected = with_value(values_of(house()), (kind, number), attribute, 7 + at)
                self.assertEqual(project.present_values(), expected)
                self.assertEqual(expected[kind == "door"][number][at], 7 + at)
                self.assertEqual(project.log(), ("raise",))

    def test_latest_edition(self):
        project = Project(house(), PLAIN)
        project.raise_to(("space", 1), "width", 1)
        self.assertEqual(project.editions(), ((0, 0, 0), (0,) * 5))
        project.adopt(WIDE)
        project.raise_to(("space", 0), "height", 1)
        self.assertEqual(project.editions(), ((1, 0, 0), (0,) * 5))
        project.adopt(HIGH)
        project.raise_to(("door", 1), "rating", 1)
        project.raise_to(("space", 1), "rating", 1)
        self.assertEqual(project.editions(), ((1, 2, 0), (0, 2, 0, 0, 0)))
        project.raise_to(("space", 0), "height", 2)
        self.assertEqual(project.editions(), ((2, 2, 0), (0, 2, 0, 0, 0)))

    def test_no_such_element(self):
        project = Project(example(), PLAIN)
        for element in (("space", 3), ("space", -1), ("door", 3), ("door", -1), ("wall", 0), ("", 0), ("space", 99)):
            self.refuses(NoSuchElement, project, project.raise_to, element, "width", 100)

    def test_not_present(self):
        project = Project(house(), PLAIN)
        for element in (("space", 2), ("door", 2), ("door", 3), ("door", 4)):
            self.refuses(NotPresent, project, project.raise_to, element, "width", 100)
        project.install(0)
        project.raise_to(("door", 2), "width", 100)
        self.refuses(NotPresent, project, project.raise_to, ("door", 3), "width", 100)

    def test_not_a_raise(self):
        project = Project(example(), PLAIN)
        for value in (80, 79, 0, -1):
            self.refuses(NotARaise, project, project.raise_to, ("door", 0), "width", value)
        project.raise_to(("door", 0), "width", 81)
        for value in (81, 80):
            self.refuses(NotARaise, project, project.raise_to, ("door", 0), "width", value)
        project.raise_to(("door", 0), "width", 82)

    def test_too_great(self):
        project = Project(example(), PLAIN)
        for element, attribute, most in ((("door", 0), "width", 120), (("door", 1), "width", 160),
                                         (("door", 0), "rating", 90), (("door", 1), "height", 210),
                                         (("space", 0), "rating", 60), (("space", 1), "height", 300)):
            self.refuses(TooGreat, project, project.raise_to, element, attribute, most + 1)
            project.raise_to(element, attribute, most)
            self.refuses(TooGreat, project, project.raise_to, element, attribute, most + 1)
            self.refuses(NotARaise, project, project.raise_to, element, attribute, most)

    def test_too_many_changes(self):
        project = self.full()
        self.refuses(TooManyChanges, project, project.raise_to, ("space", 0), "width", 1)

    def test_order_of_refusals(self):
        project = self.full(example())
        self.refuses(NoSuchElement, project, project.raise_to, ("door", 3), "width", 1000)
        self.refuses(TooManyChanges, project, project.raise_to, ("door", 2), "width", 1000)
        self.refuses(TooManyChanges, project, project.raise_to, ("door", 0), "width", 0)
        self.refuses(TooManyChanges, project, project.raise_to, ("door", 0), "width", 1000)
        project.undo()
        self.refuses(NotPresent, project, project.raise_to, ("door", 2), "width", 0)
        self.refuses(NotPresent, project, project.raise_to, ("door", 2), "width", 1000)
        self.refuses(NotPresent, project, project.raise_to, ("space", 2), "width", 0)
        # A value can only be both no raise and too great where no greater one is possible.
        self.refuses(NotARaise, project, project.raise_to, ("space", 0), "width", 0)
        self.refuses(TooGreat, project, project.raise_to, ("space", 0), "width", 1)


class InstallTest(ProjectCase):
    def test_measures_are_told_ascending(self):
        project = Project(house(), PLAIN)
        for measure, expected in ((1, (1,)), (2, (1, 2)), (0, (0, 1, 2))):
            self.assertIsNone(project.install(measure))
            self.assertEqual(project.measures(), expected)
        self.assertEqual(project.log(), ("install",) * 3)
        self.assertEqual(project.present_values(), values_of(house()))

    def test_doors_get_the_latest_edition_and_keep_it(self):
        project = Project(house(), PLAIN)
        project.adopt(WIDE)
        project.install(0)
        self.assertEqual(project.editions(), ((0, 0, 0), (0, 0, 1, 0, 1)))
        project.adopt(HIGH)
        self.assertEqual(project.editions(), ((0, 0, 0), (0, 0, 1, 0, 1)))
        project.install(2)
        self.assertEqual(project.editions(), ((0, 0, 0), (0, 0, 1, 0, 1)))
        project.install(1)
        self.assertEqual(project.editions(), ((0, 0, 0), (0, 0, 1, 2, 1)))
        project.raise_to(("door", 2), "width", 5)
        self.assertEqual(project.editions(), ((0, 0, 0), (0, 0, 2, 2, 1)))

    def test_no_such_measure(self):
        project = Project(house(), PLAIN)
        for measure in (3, -1, 4, 100):
            self.refuses(NoSuchMeasure, project, project.install, measure)
        project = Project(Plan((space(),), (), (), NONE), PLAIN)
        self.refuses(NoSuchMeasure, project, project.install, 0)

    def test_already_installed(self):
        project = Project(house(), PLAIN)
        project.install(1)
        self.refuses(AlreadyInstalled, project, project.install, 1)
        project.install(0)
        self.refuses(AlreadyInstalled, project, project.install, 0)
        self.refuses(AlreadyInstalled, project, project.install, 1)
        project.undo()
        project.install(0)

    def test_too_many_changes_and_the_order_of_refusals(self):
        project = Project(house(), PLAIN)
        project.install(0)
        for _ in range(MANY - 1):
            project.upgrade()
        self.refuses(NoSuchMeasure, project, project.install, 3)
        self.refuses(TooManyChanges, project, project.install, 0)
        self.refuses(TooManyChanges, project, project.install, 1)
        project.undo()
        self.refuses(AlreadyInstalled, project, project.install, 0)
        project.install(1)


class UpgradeTest(ProjectCase):
    def test_example(self):
        project = Project(example(), WIDE)
        self.assertEqual(project.upgrade(), 168)
        expected = (((0, 30, 250), (118, 30, 250), (0, 0, 0)), ((90, 0, 200), (108, 0, 200), (70, 0, 200)))
        self.assertEqual(project.present_values(), expected)
        self.assertEqual(project.violations(), ())
        self.assertEqual(project.log(), ("upgrade",))

    def test_upgrade_that_raises_nothing_is_a_change(self):
        project = Project(example(), WIDE)
        self.assertEqual([project.upgrade(), project.upgrade(), project.upgrade()], [168, 0, 0])
        self.assertEqual(project.log(), ("upgrade",) * 3)
        self.assertTrue(project.undo())
        self.assertTrue(project.undo())
        self.assertEqual(project.present_values()[1][0], (90, 0, 200))
        self.assertTrue(project.undo())
        self.assertEqual(project.present_values()[1][0], (80, 0, 200))

    def test_editions_do_not_change(self):
        project = Project(example(), WIDE)
        project.adopt(HIGH)
        project.upgrade()
        self.assertEqual(project.editions(), ((0, 0, 0), (0, 0, 0)))

    def test_each_element_by_the_code_of_its_edition(self):
        project = Project(house(), PLAIN)
        project.adopt(HIGH)
        project.raise_to(("space", 1), "width", 1)
        project.install(0)
        self.assertEqual(project.upgrade(), 3 * 300 + 3 * 205 * 2)
        heights = [[triple[2] for triple in part] for part in project.present_values()]
        self.assertEqual(heights, [[0, 300, 0], [0, 0, 205, 0, 205]])

    def test_measures_count(self):
        project = Project(example(), WIDE)
        project.install(0)
        self.assertEqual(project.upgrade(), 60)
        self.assertEqual(project.present_values()[1], ((80, 0, 200), (80, 0, 200), (90, 0, 200)))

    def test_present_values_count(self):
        project = Project(example(), WIDE)
        project.raise_to(("door", 1), "width", 150)
        self.assertEqual(project.upgrade(), 3 * 10 + 3 * 60)
        self.assertEqual(project.present_values()[0][1], (160, 30, 250))

    def test_no_upgrade(self):
        obstacles = (
            (f"{AREAS}\n{rule('121', about='door width')}", ("value", "door", 0, "width")),
            (f"{AREAS}\n{rule('61', about='space rating')}", ("value", "space", 0, "rating")),
            (f"{AREAS}\n{limit('1', about='space load')}", ("limit", 0, "space", 0)),
            (f"{AREAS}\n{limit('12')}\n{limit('10', about='door load')}", ("limit", 1, "door", 1)),
        )
        for text, obstacle in obstacles:
            project = Project(example(), text)
            self.assertEqual(self.refuses(NoUpgrade, project, project.upgrade).obstacle, obstacle)

    def test_too_many_changes_go_ahead_of_no_upgrade(self):
        project = Project(house(), PLAIN)
        project.adopt(TOO_MUCH)
        project.raise_to(("door", 0), "rating", 1)
        project.adopt(f"{AREAS}\n{rule('1001', about='door rating')}")
        for value in range(1, MANY - 3):
            project.raise_to(("space", 0), "width", value)
        self.assertEqual(len(project.log()), MANY - 1)
        project.raise_to(("door", 1), "width", 1)
        self.refuses(TooManyChanges, project, project.upgrade)
        project.undo()
        project.undo()
        project.raise_to(("door", 1), "width", 1)
        error = self.refuses(NoUpgrade, project, project.upgrade)
        self.assertEqual(error.obstacle, ("value", "door", 1, "rating"))


class UndoTest(ProjectCase):
    def changes(self, project):
        return (
            ("adopt", lambda: project.adopt(WIDE)),
            ("raise", lambda: project.raise_to(("space", 1), "width", 9)),
            ("install", lambda: project.install(0)),
            ("upgrade", project.upgrade),
            ("adopt", lambda: project.adopt(RATED)),
            ("raise", lambda: project.raise_to(("door", 2), "width", 150)),
            ("install", lambda: project.install(1)),
            ("raise", lambda: project.raise_to(("door", 3), "rating", 1)),
            ("upgrade", project.upgrade),
        )

    def test_behind_each_change(self):
        project = Project(house(), HIGH)
        before = seen(project)
        for name, change in self.changes(project):
            change()
            behind = seen(project)
            self.assertEqual(project.log(), before[4] + (name,))
            self.assertNotEqual(behind, before)
            self.assertIs(project.undo(), True)
            self.assertEqual(seen(project), before)
            change()
            self.assertEqual(seen(project), behind)
            before = behind

    def test_all_changes_one_after_the_other(self):
        project = Project(house(), HIGH)
        states = [seen(project)]
        for _, change in self.changes(project):
            change()
            states.append(seen(project))
        while len(states) > 1:
            self.assertEqual(seen(project), states.pop())
            self.assertIs(project.undo(), True)
        self.assertEqual(seen(project), states[0])
        self.assertIs(project.undo(), False)
        self.assertEqual(seen(project), states[0])

    def test_again_behind_further_changes(self):
        project = Project(house(), PLAIN)
        project.raise_to(("space", 0), "width", 1)
        project.raise_to(("space", 0), "width", 2)
        project.undo()
        project.install(1)
        self.assertEqual(project.log(), ("raise", "install"))
        project.undo()
        self.assertEqual(project.present_values()[0][0], (1, 0, 0))
        project.undo()
        self.assertEqual(project.present_values(), values_of(house()))
        self.assertFalse(project.undo())
        self.assertFalse(project.undo())
        project.raise_to(("space", 0), "width", 3)
        self.assertTrue(project.undo())
        self.assertEqual(project.present_values(), values_of(house()))

    def test_exactly_twenty_changes(self):
        project = Project(house(), PLAIN)
        for value in range(1, MANY + 1):
            project.raise_to(("space", 0), "width", value)
        self.assertEqual(project.log(), ("raise",) * MANY)
        self.refuses(TooManyChanges, project, project.raise_to, ("space", 0), "width", MANY + 1)
        self.refuses(TooManyChanges, project, project.adopt, PLAIN)
        self.refuses(TooManyChanges, project, project.install, 0)
        self.refuses(TooManyChanges, project, project.upgrade)
        # What is undone makes room for one more change.
        project.undo()
        project.raise_to(("space", 0), "width", 500)
        self.refuses(TooManyChanges, project, project.raise_to, ("space", 0), "width", 501)
        for value in [500] + list(range(MANY - 1, 0, -1)):
            self.assertEqual(project.present_values()[0][0], (value, 0, 0))
            self.assertTrue(project.undo())
        self.assertFalse(project.undo())

    def test_refused_changes_are_not_in_the_log(self):
        project = Project(example(), WIDE)
        project.install(0)
        self.refuses(AlreadyInstalled, project, project.install, 0)
        self.refuses(NotPresent, project, project.raise_to, ("space", 2), "width", 1)
        project.undo()
        self.assertEqual(project.log(), ())


class ForkTest(ProjectCase):
    def begun(self):
        project = Project(house(), HIGH)
        project.adopt(WIDE)
        project.install(0)
        project.raise_to(("space", 1), "width", 9)
        return project

    def test_fork_has_all_that_its_original_has(self):
        for project in (self.begun(), Project(house(), HIGH), self.full()):
            other = project.fork()
            self.assertIs(type(other), Project)
            self.assertIsNot(other, project)
            self.assertEqual(seen(other), seen(project))
            while project.undo():
                self.assertTrue(other.undo())
                self.assertEqual(seen(other), seen(project))
            self.assertFalse(other.undo())

    def test_changes_of_one_side_alone(self):
        for side in (0, 1):
            for change in (lambda one: one.adopt(RATED), lambda one: one.raise_to(("door", 0), "width", 3),
                           lambda one: one.install(1), lambda one: one.upgrade(), lambda one: one.undo(),
                           lambda one: [one.undo(), one.undo(), one.undo(), one.install(2)]):
                project = self.begun()
                pair = (project, project.fork())
                before = seen(pair[1 - side])
                change(pair[side])
                self.assertEqual(seen(pair[1 - side]), before)
                self.assertNotEqual(seen(pair[side]), before)

    def test_each_side_is_changed_later(self):
        project = self.begun()
        other = project.fork()
        project.raise_to(("space", 0), "width", 1)
        other.install(1)
        self.assertEqual(project.log(), ("adopt", "install", "raise", "raise"))
        self.assertEqual(other.log(), ("adopt", "install", "raise", "install"))
        project.undo()
        other.undo()
        self.assertEqual(seen(project), seen(other))
        other.undo()
        self.assertEqual(len(project.log()), 3)
        again = other.fork().fork()
        again.undo()
        self.assertEqual((len(other.log()), len(again.log())), (2, 1))

    def test_bounds_hold_for_the_fork(self):
        other = self.full().fork()
        self.refuses(TooManyChanges, other, other.upgrade)
        other.undo()
        other.upgrade()
        project = Project(house(), PLAIN)
        for _ in range(3):
            project.adopt(PLAIN)
        other = project.fork()
        self.refuses(TooManyEditions, other, other.adopt, PLAIN)


class TellingTest(ProjectCase):
    def test_violations_of_editions(self):
        project = Project(example(), WIDE)
        first = (("rule", 0, "door", 0, 80, 90), ("rule", 0, "door", 1, 80, 108))
        self.assertEqual(project.violations(), first)
        project.adopt(HIGH)
        self.assertEqual(project.violations(), first)
        project.raise_to(("door", 0), "width", 85)
        self.assertEqual(project.violations(), (("rule", 1, "door", 0, 200, 205), first[1]))
        project.install(0)
        # The room goes by the new door, which has the code of its edition.
        self.assertEqual(project.violations(), (
            ("rule", 1, "door", 0, 200, 205), ("rule", 1, "door", 2, 200, 205)))

    def test_areas_of_each_code(self):
        project = Project(example(), f"{AREAS}\n{rule('(quantity load)')}")
        project.adopt(f"areas 1 1 1 1 1\n{rule('(plus 300 (quantity load))')}")
        self.assertEqual(project.violations(), (("rule", 0, "space", 0, 0, 10),))
        project.raise_to(("space", 1), "width", 101)
        self.assertEqual(project.violations(), (
            ("rule", 0, "space", 0, 0, 10), ("rule", 0, "space", 1, 101, 420)))

    def test_clearing(self):
        project = Project(example(), WIDE)
        areas = Code(WIDE).areas
        self.assertEqual(project.clear_by(40), clear_by(example(), (), areas, values_of(example()), 40))
        self.assertEqual(project.clear_by(40)[1], 6)
        self.assertEqual(project.clear_by(5)[0], "later")
        self.assertEqual(project.clear_by(0)[0], "later")

    def test_clearing_behind_each_change(self):
        project = Project(example(), WIDE)
        project.raise_to(("door", 0), "width", 120)
        self.assertEqual(project.clear_by(40)[1], 6)
        project.raise_to(("door", 1), "width", 160)
        self.assertEqual(project.clear_by(40)[1], 5)
        project.install(0)
        self.assertEqual(project.clear_by(40)[1], 4)
        project.upgrade()
        self.assertEqual(project.clear_by(40)[1], 4)
        # The areas are those of the latest edition, which holds for no element yet: 120 persons.
        project.adopt("areas 1 1 1 1 1")
        self.assertEqual(project.clear_by(40)[1], 13)
        project.undo()
        self.assertEqual(project.clear_by(40)[1], 4)

    def test_clearing_above_40(self):
        project = Project(example(), WIDE)
        for limit_of_minutes in (41, 99):
            error = self.refuses(TooManyMinutes, project, project.clear_by, limit_of_minutes)
            self.assertEqual(error.count, limit_of_minutes)


class Model:
    """A project as plainly as can be: a list of dicts, one for each change and one ahead of them."""

    def __init__(self, plan, text):
        self.plan = plan
        of_spaces, of_doors = values_of(plan)
        self.states = [{
            "name": None, "texts": [text], "measures": set(), "values": {}, "editions": {},
        }]
        for kind, part in (("space", of_spaces), ("door", of_doors)):
            for number, triple in enumerate(part):
                self.states[0]["editions"][kind, number] = 0
                for attribute, value in zip(("width", "rating", "height"), triple):
                    self.states[0]["values"][kind, number, attribute] = value

    def copy(self):
        other = Model(self.plan, self.states[0]["texts"][0])
        other.states = list(self.states)
        return other

    def begin(self, name):
        now = {key: value if key == "name" else value.copy() for key, value in self.states[-1].items()}
        now["name"] = name
        if len(self.states) > MANY:
            raise TooManyChanges()
        return now

    def parts(self, make):
        return tuple(tuple(make(kind, number) for number in range(many))
                     for kind, many in (("space", len(self.plan.spaces)), ("door", len(self.plan.doors))))

    def values(self, now):
        return self.parts(lambda kind, number: tuple(
            now["values"][kind, number, attribute] for attribute in ("width", "rating", "height")))

    def codes(self, now):
        return self.parts(lambda kind, number: Code(now["texts"][now["editions"][kind, number]]))

    def is_present(self, now, element):
        kind, number = element
        if kind == "space":
            return self.plan.spaces[number][0] != "outside"
        return self.plan.doors[number][2] is None or self.plan.doors[number][2] in now["measures"]

    def adopt(self, text):
        Code(text)
        now = self.begin("adopt")
        if len(now["texts"]) == 4:
            raise TooManyEditions()
        now["texts"].append(text)
        self.states.append(now)
        return len(now["texts"]) - 1

    def raise_to(self, element, attribute, value):
        kind, number = element
        if kind not in ("space", "door") or element not in self.states[0]["editions"]:
            raise NoSuchElement()
        now = self.begin("raise")
        if not self.is_present(now, element):
            raise NotPresent()
        if value <= now["values"][kind, number, attribute]:
            raise NotARaise()
        greatest = self.plan.spaces[number][6] if kind == "space" else self.plan.doors[number][4]
        if value > greatest[("width", "rating", "height").index(attribute)]:
            raise TooGreat()
        now["values"][kind, number, attribute] = value
        now["editions"][element] = len(now["texts"]) - 1
        self.states.append(now)

    def install(self, measure):
        if measure not in range(len(self.plan.measure_prices)):
            raise NoSuchMeasure()
        now = self.begin("install")
        if measure in now["measures"]:
            raise AlreadyInstalled()
        now["measures"].add(measure)
        for number, row in enumerate(self.plan.doors):
            if row[2] == measure:
                now["editions"]["door", number] = len(now["texts"]) - 1
        self.states.append(now)

    def upgrade(self):
        now = self.begin("upgrade")
        measures = tuple(sorted(now["measures"]))
        told = least_upgrade(self.plan, measures, self.codes(now), self.values(now))
        if told[0] == "obstacle":
            raise NoUpgrade(told[1])
        for kind, part in zip(("space", "door"), told[1]):
            for number, triple in enumerate(part):
                for attribute, value in zip(("width", "rating", "height"), triple):
                    now["values"][kind, number, attribute] = value
        self.states.append(now)
        return told[2]

    def undo(self):
        if len(self.states) == 1:
            return False
        self.states.pop()
        return True

    def seen(self):
        now = self.states[-1]
        measures = tuple(sorted(now["measures"]))
        codes, values = self.codes(now), self.values(now)
        return (measures, values, self.parts(lambda *element: now["editions"][element]),
                tuple(Code(text).text() for text in now["texts"]), tuple(row["name"] for row in self.states[1:]),
                violations(self.plan, measures, codes, values),
                clear_by(self.plan, measures, Code(now["texts"][-1]).areas, values, 40))


class ChanceTest(unittest.TestCase):
    TEXTS = (
        PLAIN, PLAIN, WRONG, HIGH, f"{AREAS}\n{rule('5')}", f"{AREAS}\n{rule('90', about='door height')}",
        f"areas 2 2 2 2 2\n{rule('(plus 1 (greatest width doors))')}", f"{AREAS}\n{limit('0', '(installed 1)')}",
        f"areas 1 3 1 1 1\n{rule('(quantity load)', about='door width')}",
    )

    def some_change(self, source):
        """The name of a method and its arguments."""
        name = source.choice(("adopt", "raise_to", "raise_to", "raise_to", "install", "upgrade", "undo"))
        if name == "adopt":
            return name, (source.choice(self.TEXTS),)
        if name == "raise_to":
            element = (source.choice(("space", "door")), source.randint(0, 5))
            value = source.choice((1, 2, 3, 5, 50, 999, 1000, 1001))
            return name, (element, source.choice(("width", "rating", "height")), value)
        if name == "install":
            return name, (source.randint(-1, 3),)
        return name, ()

    def carry_out(self, side, name, arguments):
        """What the call returns, or the error with its fields."""
        try:
            return getattr(side, name)(*arguments)
        except HouseError as error:
            return (type(error), vars(error))

    def test_many_changes(self):
        source = random.Random(50)
        told = {}
        for _ in range(25):
            text = source.choice([text for text in self.TEXTS if text != WRONG])
            pairs = [(Project(house(), text), Model(house(), text))]
            for _ in range(60):
                project, model = source.choice(pairs)
                name, arguments = self.some_change(source)
                found = self.carry_out(project, name, arguments)
                self.assertEqual(found, self.carry_out(model, name, arguments), (name, arguments))
                kind = found[0] if isinstance(found, tuple) else name
                told[kind] = told.get(kind, 0) + 1
                if source.random() < 0.05:
                    pairs.append((project.fork(), model.copy()))
                for one, other in pairs:
                    self.assertEqual((one.log(), one.present_values()), other.seen()[4:0:-3])
            for project, model in pairs:
                self.assertEqual(seen(project), model.seen())
        self.assertEqual(len(told), 5 + 10, told)


if __name__ == "__main__":
    unittest.main()
