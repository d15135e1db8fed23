"""Points 58 and 59: the text of a plan, and the plan that is read from a text."""

import random
import time
import unittest

from allout.errors import FaultyLine, HouseError
from allout.plans import Plan
from allout.texts import plan_of, plan_text
from chance import some_plan
from crowds import greatest_halls
from houses import FULL, NONE, door, example, space

EXAMPLE = """prices 3 5 2
measure 500
space room office 100 10 0 now 0 30 250 most 0 60 300
space corridor office 20 5 0 now 100 30 250 most 200 60 300
space outside shop 0 1 0 now 0 0 0 most 0 0 0
door 0 1 free now 80 0 200 most 120 90 210
door 1 2 free now 80 0 200 most 160 90 210
door 0 2 0 now 70 0 200 most 100 90 210
"""
ROOM = "space room office 10 1 0 now 0 0 0 most 0 0 0"
DOOR = "door 0 1 free now 0 0 0 most 0 0 0"
PRICES = "prices 0 0 0"
LARGE = "1" + "0" * 6000
# Far more than is needed, so that only an answer of another order of time is noticed.
SECONDS = 10


def same(one, two):
    return vars(one) == vars(two)


def text_of(*lines):
    return "".join(line + "\n" for line in lines)


def read_anyhow(lines):
    """The plan that lines would tell if their words were right; raises any error."""
    prices, spaces, doors, measures = None, [], [], []
    for line in lines:
        words = line.split()
        if words[0] == "prices":
            prices = tuple(int(word) for word in words[1:])
        elif words[0] == "measure":
            measures += [int(word) for word in words[1:]]
        elif words[0] == "space":
            numbers = [int(word) for word in words[3:6] + words[7:10] + words[11:14]]
            spaces.append((words[1], words[2], *numbers[:3], tuple(numbers[3:6]), tuple(numbers[6:])))
        else:
            measure = None if words[3] == "free" else int(words[3])
            numbers = [int(word) for word in words[5:8] + words[9:12]]
            doors.append((int(words[1]), int(words[2]), measure, tuple(numbers[:3]), tuple(numbers[3:])))
    return Plan(tuple(spaces), tuple(doors), tuple(measures), prices)


def can_begin(lines):
    """Tell whether the text of a plan begins with these lines, by the texts of plans alone."""
    for further in ((), (ROOM,), (PRICES, ROOM)):
        try:
            text = plan_text(read_anyhow(tuple(lines) + further))
        except Exception:
            continue
        if text.startswith(text_of(*lines)):
            return True
    return False


def wrong_line(text):
    """The number of the wrong line as point 59 says it, or None for the text of a plan."""
    if not text.endswith("\n"):
        return text.count("\n") + 1
    lines = text.split("\n")[:-1]
    for many in range(1, len(lines) + 1):
        if not can_begin(lines[:many]):
            return many
    try:
        if plan_text(read_anyhow(lines)) == text:
            return None
    except Exception:
        pass
    return len(lines) + 1


def greatest_plan():
    """A plan with all that there may be, each number the greatest one."""
    one = ("outside", "home", 100000, 1000, 50, FULL, FULL)
    rows = tuple((7, 6, 2, FULL, FULL) for _ in range(12))
    return Plan((one,) * 8, rows, (100000,) * 3, FULL)


class TextTest(unittest.TestCase):
    def test_example(self):
        self.assertEqual(plan_text(example()), EXAMPLE)
        self.assertTrue(same(plan_of(EXAMPLE), example()))

    def test_least_plan(self):
        plan = Plan((("room", "assembly", 0, 1, 0, NONE, NONE),), (), (), NONE)
        text = "prices 0 0 0\nspace room assembly 0 1 0 now 0 0 0 most 0 0 0\n"
        self.assertEqual(plan_text(plan), text)
        self.assertTrue(same(plan_of(text), plan))

    def test_greatest_plan(self):
        text = plan_text(greatest_plan())
        values = "now 1000 1000 1000 most 1000 1000 1000"
        lines = ["prices 1000 1000 1000"] + ["measure 100000"] * 3
        lines += [f"space outside home 100000 1000 50 {values}"] * 8 + [f"door 7 6 2 {values}"] * 12
        self.assertEqual(text, text_of(*lines))
        self.assertTrue(same(plan_of(text), greatest_plan()))

    def test_order_of_lines_and_of_numbers(self):
        spaces = (("stair", "home", 1, 2, 3, (4, 5, 6), (7, 8, 9)), ("corridor", "storage", 9, 8, 7, NONE, (3, 2, 1)))
        doors = ((1, 0, 1, (1, 2, 3), (4, 5, 6)), (0, 1, 0, NONE, (9, 8, 7)), (0, 1, None, NONE, NONE))
        plan = Plan(spaces, doors, (20, 10), (7, 8, 9))
        text = text_of(
            "prices 7 8 9", "measure 20", "measure 10",
            "space stair home 1 2 3 now 4 5 6 most 7 8 9",
            "space corridor storage 9 8 7 now 0 0 0 most 3 2 1",
            "door 1 0 1 now 1 2 3 most 4 5 6",
            "door 0 1 0 now 0 0 0 most 9 8 7",
            "door 0 1 free now 0 0 0 most 0 0 0",
        )
        self.assertEqual(plan_text(plan), text)
        self.assertTrue(same(plan_of(text), plan))

    def test_each_kind_and_each_use(self):
        for kind in ("room", "corridor", "stair", "outside"):
            for use in ("assembly", "office", "shop", "storage", "home"):
                text = text_of(PRICES, f"space {kind} {use} 3 1 2 now 0 0 0 most 1 1 1")
                plan = plan_of(text)
                self.assertEqual(plan.spaces[0], (kind, use, 3, 1, 2, NONE, (1, 1, 1)))
                self.assertEqual(plan_text(plan), text)

    def test_kinds_of_values(self):
        plan = plan_of(EXAMPLE)
        self.assertIs(type(plan), Plan)
        for part in (plan.spaces, plan.doors, plan.measure_prices, plan.prices, plan.spaces[0], plan.doors[0],
                     plan.spaces[0][5], plan.spaces[0][6], plan.doors[0][3], plan.doors[0][4]):
            self.assertIs(type(part), tuple)
        self.assertIs(type(plan.doors[2][2]), int)

    def test_plans_at_the_bounds(self):
        for many_spaces in (1, 8):
            for many_doors in (0, 1, 12) if many_spaces > 1 else (0,):
                for many_measures in (0, 3):
                    plan = Plan((space(),) * many_spaces, (door(1, 0),) * many_doors, (5,) * many_measures, NONE)
                    self.assertTrue(same(plan_of(plan_text(plan)), plan))

    def test_arguments_stay_as_they_were(self):
        plan = example()
        plan_text(plan)
        self.assertTrue(same(plan, example()))


class FaultyTextTest(unittest.TestCase):
    def check(self, text, line):
        with self.assertRaises(FaultyLine) as caught:
            plan_of(text)
        self.assertEqual(caught.exception.line, line, text)
        self.assertIsInstance(caught.exception, HouseError)

    def check_line(self, line, *before):
        """The line is wrong behind these, whatever follows."""
        self.check(text_of(*before, line), len(before) + 1)
        self.check(text_of(*before, line, ROOM), len(before) + 1)
        self.check(text_of(*before, line, "", line), len(before) + 1)

    def test_empty_text_and_line_feeds(self):
        self.check("", 1)
        self.check("\n", 1)
        self.check("\n\n", 1)
        self.check(" ", 1)
        self.check("\n" + EXAMPLE, 1)
        self.check(EXAMPLE + "\n", 9)
        self.check(EXAMPLE + "\n\n", 9)
        self.check(EXAMPLE.replace("\nmeasure", "\n\nmeasure"), 2)

    def test_no_line_feed_at_the_end(self):
        self.check(EXAMPLE[:-1], 8)
        self.check(EXAMPLE + "d", 9)
        self.check(EXAMPLE + DOOR, 9)
        self.check(PRICES, 1)
        self.check(f"{PRICES}\n{ROOM}", 2)
        # That goes ahead of all other wrong lines.
        self.check("wrong\nwrong\nwrong", 3)
        self.check("\n\n\nwrong", 4)

    def test_nothing_behind_the_prices(self):
        self.check(text_of(PRICES), 2)
        for many in (1, 2, 3):
            self.check(text_of(PRICES, *["measure 5"] * many), 2 + many)

    def test_lines_of_a_kind_at_another_place(self):
        self.check_line(ROOM)
        self.check_line("measure 5")
        self.check_line(DOOR)
        self.check_line(PRICES, PRICES)
        self.check_line(PRICES, PRICES, "measure 5")
        self.check_line(PRICES, PRICES, ROOM)
        self.check_line("measure 5", PRICES, ROOM)
        self.check_line("measure 5", PRICES, "measure 5", ROOM)
        self.check_line("measure 5", PRICES, ROOM, ROOM, DOOR)
        self.check_line(ROOM, PRICES, ROOM, ROOM, DOOR)
        self.check_line(DOOR, PRICES)
        self.check_line(DOOR, PRICES, "measure 5")
        self.check_line(PRICES, PRICES, ROOM, ROOM, DOOR)

    def test_too_many_lines_of_one_kind(self):
        self.check_line("measure 5", PRICES, *["measure 5"] * 3)
        self.check_line(ROOM, PRICES, *[ROOM] * 8)
        self.check_line(DOOR, PRICES, ROOM, ROOM, *[DOOR] * 12)
        whole = (PRICES, *["measure 5"] * 3, *[ROOM] * 8, *[DOOR] * 12)
        self.assertEqual(len(plan_of(text_of(*whole)).doors), 12)
        self.check_line(DOOR, *whole)

    def test_words(self):
        self.check_line("price 0 0 0")
        self.check_line("Prices 0 0 0")
        self.check_line("prices")
        self.check_line("prices 0 0")
        self.check_line("prices 0 0 0 0")
        self.check_line("measure", PRICES)
        self.check_line("measure 1 1", PRICES)
        self.check_line("measure free", PRICES)
        self.check_line("measures 1", PRICES)
        for old, new in (("space", "spaces"), ("room", "hall"), ("office", "room"), ("room office", "office room"),
                         ("now", "most"), ("now", "Now"), ("now ", ""), ("most", "now"), ("most", "free"),
                         (" most 0 0 0", ""), (" now 0 0 0", ""), (" 10 1 0 now", " 10 1 now"),
                         (" 10 1 0 now", " 10 1 0 0 now"), (" most 0 0 0", " most 0 0"),
                         (" most 0 0 0", " most 0 0 0 0"), (" now 0 0 0", " now 0 0 0 0"), (" now 0 0 0", " now 0 0"),
                         (" most 0 0 0", " most 0 0 0 now 0 0 0"), ("10 1", "ten 1"), ("office", "")):
            self.check_line(ROOM.replace(old, new), PRICES)
        for old, new in (("door", "doors"), ("free", "none"), ("free", "Free"), ("free", ""), ("free ", ""),
                         ("free", "free free"), ("now", "most"), (" most 0 0 0", ""), ("door 0 1", "door 0"),
                         ("door 0 1", "door 0 1 1"), ("door 0 1", "door free 1"), (" now 0 0 0", " now 0 0 0 0"),
                         (" most 0 0 0", " most 0 0 0 0"), (" most 0 0 0", " most 0 0"), (" now 0 0 0", " now 0 0")):
            self.check_line(DOOR.replace(old, new), PRICES, ROOM, ROOM)

    def test_blanks(self):
        for at, line in enumerate(EXAMPLE.split("\n")[:-1]):
            lines = EXAMPLE.split("\n")[:-1]
            for wrong in (" " + line, line + " ", line.replace(" ", "  ", 1), "  ".join(line.rsplit(" ", 1)),
                          line.replace(" ", "", 1), "", " "):
                self.check(text_of(*lines[:at], wrong, *lines[at + 1:]), at + 1)

    def test_numbers(self):
        for number in ("00", "01", "-1", "+1", "1.0", "1_0", "1e1", "a", "", "0x1", "1000000", LARGE, "(", "x1", "1x"):
            self.check_line(f"prices {number} 0 0")
            self.check_line(f"prices 0 0 {number}")
            self.check_line(f"measure {number}", PRICES)
            self.check_line(ROOM.replace("10", number), PRICES)
            self.check_line(ROOM.replace("now 0", f"now {number}"), PRICES)
            self.check_line(ROOM[:-1] + number, PRICES)
            self.check_line(DOOR.replace("door 0", f"door {number}"), PRICES, ROOM, ROOM)
            self.check_line(DOOR.replace("free", number), PRICES, "measure 5", ROOM, ROOM)
            self.check_line(DOOR[:-1] + number, PRICES, ROOM, ROOM)

    def test_bounds_of_numbers(self):
        good = (
            ("prices 1000 1000 1000", ()), ("measure 100000", (PRICES,)),
            (ROOM.replace(" 10 1 0 ", " 100000 1000 50 "), (PRICES,)), (ROOM.replace(" 10 1 0 ", " 0 1 0 "), (PRICES,)),
            (ROOM.replace("0 0 0", "1000 1000 1000"), (PRICES,)),
            (DOOR.replace("0 0 0", "1000 1000 1000"), (PRICES, ROOM, ROOM)),
        )
        for line, before in good:
            rest = () if ROOM in before or line.startswith("space") else (ROOM,)
            self.assertIsInstance(plan_of(text_of(*before, line, *rest)), Plan)
        for wrong in ("prices 1001 0 0", "prices 0 1001 0", "prices 0 0 1001"):
            self.check_line(wrong)
        self.check_line("measure 100001", PRICES)
        for numbers in ("100001 1 0", "10 1001 0", "10 0 0", "10 1 51"):
            self.check_line(ROOM.replace("10 1 0", numbers), PRICES)
        for wrong in ("1001 0 0", "0 1001 0", "0 0 1001"):
            self.check_line(ROOM.replace("most 0 0 0", f"most {wrong}"), PRICES)
            self.check_line(ROOM.replace("0 0 0", wrong), PRICES)
            self.check_line(DOOR.replace("most 0 0 0", f"most {wrong}"), PRICES, ROOM, ROOM)
            self.check_line(DOOR.replace("0 0 0", wrong), PRICES, ROOM, ROOM)

    def test_value_above_its_greatest_one(self):
        for wrong in ("now 6 5 5", "now 5 6 5", "now 5 5 6"):
            self.check_line(ROOM.replace("now 0 0 0 most 0 0 0", f"{wrong} most 5 5 5"), PRICES)
            self.check_line(DOOR.replace("now 0 0 0 most 0 0 0", f"{wrong} most 5 5 5"), PRICES, ROOM, ROOM)
        self.assertIsInstance(plan_of(text_of(PRICES, ROOM.replace("0 0 0", "5 5 5"))), Plan)

    def test_spaces_of_a_door(self):
        before = (PRICES, ROOM, ROOM, ROOM)
        for sides in ("0 3", "3 0", "0 8", "7 1", "0 0", "2 2", "3 3"):
            self.check_line(DOOR.replace("0 1", sides, 1), *before)
        for sides in ("0 2", "2 1", "1 0"):
            plan = plan_of(text_of(*before, DOOR.replace("0 1", sides, 1)))
            self.assertEqual(plan.doors[0][:2], tuple(int(side) for side in sides.split()))
        # One space alone has no door, and none can come any more.
        self.check_line(DOOR, PRICES, ROOM)
        self.check_line(DOOR.replace("0 1", "0 0", 1), PRICES, ROOM)

    def test_measure_of_a_door(self):
        for many in range(4):
            before = (PRICES, *["measure 5"] * many, ROOM, ROOM)
            for number in range(5):
                line = DOOR.replace("free", str(number))
                if number < many:
                    self.assertEqual(plan_of(text_of(*before, line)).doors[0][2], number)
                else:
                    self.check_line(line, *before)

    def test_first_wrong_line_is_told(self):
        self.check(text_of(PRICES, "measure 5", "wrong", "wrong"), 3)
        self.check(text_of(PRICES, ROOM, ROOM, DOOR, DOOR.replace("1", "2"), "measure 5"), 5)
        self.check(text_of("wrong", PRICES), 1)

    def test_lines_that_are_left_out_put_in_twice_or_exchanged(self):
        lines = EXAMPLE.split("\n")[:-1]
        for at in range(len(lines)):
            for other in (lines[:at] + lines[at + 1:], lines[:at] + [lines[at]] + lines[at:],
                          lines[:at] + [PRICES] + lines[at:], lines[:at] + [ROOM] + lines[at:],
                          lines[:at] + [DOOR] + lines[at:], lines[:at] + ["measure 7"] + lines[at:]):
                self.check_as_said(text_of(*other))
            for to in range(at):
                other = list(lines)
                other[at], other[to] = other[to], other[at]
                self.check_as_said(text_of(*other))
            self.check_as_said(text_of(*lines[:at]))

    def check_as_said(self, text):
        line = wrong_line(text)
        if line is None:
            self.assertEqual(plan_text(plan_of(text)), text)
        else:
            self.check(text, line)
        return line

    def test_left_out_measure_is_noticed_at_its_door(self):
        lines = EXAMPLE.split("\n")[:-1]
        self.check(text_of(lines[0], *lines[2:]), 7)
        self.check(text_of(*lines[:2], *lines[3:]), 6)

    def test_damaged_texts_by_chance(self):
        source = random.Random(59)
        words = ("0", "1", "2", "7", "8", "00", "1000", "1001", "free", "now", "most", "room", "shop", "space", "door",
                 "measure", "prices", "", "\n", " ")
        wrong = []
        for _ in range(1500):
            parts = plan_text(some_plan(source)).replace("\n", " \n ").split(" ")
            for _ in range(source.choice((0, 1, 1, 2))):
                at = source.randrange(len(parts))
                parts[at:at + source.randint(0, 1)] = [source.choice(words)] * source.randint(0, 1)
            text = " ".join(parts).replace(" \n ", "\n").replace(" \n", "\n")
            wrong.append(self.check_as_said(text))
        self.assertGreater(wrong.count(None), 100)
        self.assertGreater(len(set(wrong)), 15)

    def test_texts_that_are_cut_off(self):
        for at in range(len(EXAMPLE)):
            self.check_as_said(EXAMPLE[:at])


class ChanceTest(unittest.TestCase):
    def test_plans_by_chance(self):
        source = random.Random(58)
        for _ in range(300):
            plan = some_plan(source)
            self.assertTrue(same(plan_of(plan_text(plan)), plan))

    def test_greatest_plans(self):
        begin = time.monotonic()
        for plan in greatest_halls(random.Random(57)):
            for _ in range(20):
                self.assertTrue(same(plan_of(plan_text(plan)), plan))
        self.assertLess(time.monotonic() - begin, SECONDS)


if __name__ == "__main__":
    unittest.main()
