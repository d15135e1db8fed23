"""Points 17 to 39 on many plans and codes, against what the document says, as plainly as can be."""

import random
import unittest

from allout.codes import Code, first_wrong_line, print_line, read_line
from allout.errors import FaultyLine, TooManyReasons
from allout.judging import allowed, demanded, is_compliant, related, required, violations
from allout.loads import loads, persons, quantity
from allout.plans import price_of, values_of
from allout.upgrades import check_reasons, least_upgrade, reasons
from chance import (ATTRIBUTES, QUANTITIES, RELATIONS, plain_text, some_lines, some_plan, some_text, tokens_of_line)
from reference import Reference

MANY = 250


def as_dict(values):
    """Values by (kind, number, attribute)."""
    return {
        (kind, number, name): value
        for kind, triples in zip(("space", "door"), values)
        for number, triple in enumerate(triples) for name, value in zip(ATTRIBUTES, triple)
    }


def as_pair(plan, values):
    parts = []
    for kind, part in (("space", plan.spaces), ("door", plan.doors)):
        parts.append(tuple(tuple(values[kind, at, name] for name in ATTRIBUTES) for at in range(len(part))))
    return tuple(parts)


def read_code(source, lines):
    return Code("\n".join(some_text(source, tokens_of_line(line)) for line in lines))


def some_code(source):
    """The trees of a code's lines and the code, none that is too great."""
    while True:
        lines = some_lines(source)
        try:
            return lines, read_code(source, lines)
        except FaultyLine:
            if sum(len(tokens_of_line(line)) for line in lines) < 250:
                raise


def some_codes(source, plan):
    """Codes, and the trees of their lines for each element."""
    every = [("space", at) for at in range(len(plan.spaces))] + [("door", at) for at in range(len(plan.doors))]
    if source.random() < 0.5:
        lines, code = some_code(source)
        return code, {element: lines for element in every}
    pool = [some_code(source) for _ in range(3)]
    chosen = {element: source.choice(pool) for element in every}
    codes = [tuple(chosen[element][1] for element in every if element[0] == kind) for kind in ("space", "door")]
    return tuple(codes), {element: chosen[element][0] for element in every}


class ReadingTest(unittest.TestCase):
    def test_lines_and_codes(self):
        source = random.Random(17)
        for _ in range(MANY):
            lines, code = some_code(source)
            for line in lines:
                tokens = tokens_of_line(line)
                self.assertEqual(read_line(some_text(source, tokens)), line)
                self.assertEqual(print_line(line), plain_text(tokens))
            text = "\n".join(plain_text(tokens_of_line(line)) for line in lines)
            self.assertEqual(code.text(), text)
            self.assertIsNone(first_wrong_line(text))
            self.assertEqual((("areas", code.areas),) + tuple(("rule",) + rule for rule in code.rules)
                             + tuple(("limit",) + limit for limit in code.limits), tuple(lines))

    def test_damaged_lines(self):
        source = random.Random(18)
        words = ("(", ")", "always", "1", "own", "width", "except", "when", "nothing", "doors", "load", "0")
        for _ in range(MANY):
            lines, _ = some_code(source)
            at = source.randrange(len(lines))
            tokens = tokens_of_line(lines[at])
            place = source.randrange(len(tokens))
            tokens[place:place + source.randint(0, 1)] = [source.choice(words)] * source.randint(0, 1)
            tree = read_line(" ".join(tokens))
            # What is a line is a line of its own tree, and of no other one.
            if tree is not None:
                self.assertEqual(tokens_of_line(tree), tokens)
                self.assertEqual(read_line(print_line(tree)), tree)
            texts = [plain_text(tokens_of_line(line)) for line in lines]
            texts[at] = " ".join(tokens)
            text = "\n".join(texts)
            wrong = first_wrong_line(text)
            self.assertEqual(wrong, None if tree is not None else at + 1)
            if wrong is not None:
                with self.assertRaises(FaultyLine) as caught:
                    Code(text)
                self.assertEqual(caught.exception.line, wrong)


class JudgingTest(unittest.TestCase):
    def setUp(self):
        self.source = random.Random(39)

    def cases(self):
        for _ in range(MANY):
            plan = some_plan(self.source)
            measures = self.source.choice(((), (0,), (1,), (0, 2), (0, 1, 2)))
            codes, lines = some_codes(self.source, plan)
            yield plan, measures, codes, Reference(plan, measures, lines)

    def test_quantities_and_related_elements(self):
        for plan, measures, _, reference in self.cases():
            areas = tuple(self.source.choice((1, 2, 10, 1000)) for _ in range(5))
            spaces = range(len(plan.spaces))
            self.assertEqual(persons(plan, areas), tuple(reference.persons(at, areas) for at in spaces))
            of_spaces, of_doors = loads(plan, measures, areas)
            for element in reference.lines:
                load = of_spaces[element[1]] if element[0] == "space" else of_doors[element[1]]
                self.assertEqual(load, reference.load(element, areas))
                for name in QUANTITIES:
                    expected = reference.quantity(element, areas, name)
                    self.assertEqual(quantity(plan, measures, areas, element, name), expected)
                for relation in RELATIONS:
                    expected = tuple(reference.related(element, relation))
                    self.assertEqual(related(plan, measures, element, relation), expected)

    def test_what_lines_require(self):
        for plan, measures, codes, reference in self.cases():
            values = values_of(plan)
            for element in reference.lines:
                rows = list(reference.demands(as_dict(values), element, "rule"))
                told = [demanded(plan, measures, codes, values, element, at) for at in range(len(rows))]
                self.assertEqual(told, [least for _, least in rows])
                for name in ATTRIBUTES:
                    least = [row[1] for row in rows if row[0] == name and row[1] is not None]
                    expected = max(least, default=0) if element in reference.present else 0
                    self.assertEqual(required(plan, measures, codes, values, element, name), expected)
                rows = list(reference.demands(as_dict(values), element, "limit"))
                told = [allowed(plan, measures, codes, element, at) for at in range(len(rows))]
                self.assertEqual(told, [most for _, most in rows])

    def test_violations(self):
        for plan, measures, codes, reference in self.cases():
            values = values_of(plan)
            expected = reference.violations(as_dict(values))
            self.assertEqual(violations(plan, measures, codes, values), expected)
            self.assertIs(is_compliant(plan, measures, codes, values), expected == ())

    def test_upgrades_and_reasons(self):
        counts = {"limit": 0, "value": 0, "values": 0, "raised": 0}
        for plan, measures, codes, reference in self.cases():
            values = values_of(plan)
            obstacle, after, rows = reference.upgrade(as_dict(values))
            counts["values" if obstacle is None else obstacle[0]] += 1
            counts["raised"] += obstacle is None and rows != ()
            found = least_upgrade(plan, measures, codes, values)
            if obstacle is not None:
                self.assertEqual(found, ("obstacle", obstacle))
            else:
                led = as_pair(plan, after)
                self.assertEqual(found, ("values", led, price_of(plan, values, led)))
                self.assertTrue(is_compliant(plan, measures, codes, led))
            self.check_reasons(plan, measures, codes, rows, after)
        # Each of these cases has to be among those that chance has made.
        self.assertGreater(min(counts.values()), MANY // 20, counts)

    def check_reasons(self, plan, measures, codes, rows, after):
        values = values_of(plan)
        if len(rows) > 300:
            with self.assertRaises(TooManyReasons):
                reasons(plan, measures, codes, values)
            return
        self.assertEqual(reasons(plan, measures, codes, values), rows)
        led = check_reasons(plan, measures, codes, values, rows)
        expected = dict(as_dict(values))
        expected.update({reason[:3]: reason[4] for reason in rows})
        self.assertEqual(led, as_pair(plan, expected))
        if after is not None:
            self.assertEqual(expected, after)
        for at, reason in enumerate(rows):
            higher = reason[:4] + (reason[4] + 1,)
            self.assertIsNone(check_reasons(plan, measures, codes, values, rows[:at + 1] + (reason,)))
            # In rounds a rule never requires more than the reason tells, unless values that it
            # asks for were raised earlier in the same round.
            if at == 0:
                self.assertIsNone(check_reasons(plan, measures, codes, values, (higher,)))


if __name__ == "__main__":
    unittest.main()
