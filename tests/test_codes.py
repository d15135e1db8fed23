"""Points 20, 23 and 25: codes, wrong lines, and canonical texts."""

import unittest

from allout.codes import Code, first_wrong_line, read_line
from allout.errors import FaultyLine
from lines import AREAS, limit, rule

RULE = rule("1")
LIMIT = limit("1")
EXCEPTION = " except when always require (0)"


def text_of(*lines):
    return "\n".join(lines)


class CodesCase(unittest.TestCase):
    def assert_wrong(self, expected, *lines):
        """Check what both functions say of these lines."""
        text = text_of(*lines)
        self.assertEqual(first_wrong_line(text), expected, text)
        with self.assertRaises(FaultyLine, msg=text) as caught:
            Code(text)
        self.assertEqual(caught.exception.line, expected)

    def assert_code(self, *lines):
        text = text_of(*lines)
        self.assertIsNone(first_wrong_line(text), text)
        return Code(text)


class FieldsTest(CodesCase):
    def test_document_example(self):
        code = self.assert_code(
            "areas  1 10 5 30 20", "rule door width when(atLeast load 1)require(share(quantity load)2)"
        )
        self.assertEqual(code.text(), "areas 1 10 5 30 20\nrule door width when (atLeast load 1)"
                                      " require (share (quantity load) 2)")
        self.assertEqual(code.areas, (1, 10, 5, 30, 20))
        expected = ("door", "width", ("atLeast", "load", 1), (("share", ("quantity", "load"), 2), ()))
        self.assertEqual(code.rules, (expected,))
        self.assertEqual(code.limits, ())

    def test_rules_and_limits_in_their_order(self):
        rules = [rule(str(at), about=about) for at, about in enumerate(("space width", "door height", "space rating"))]
        limits = [limit(str(at), about=about) for at, about in enumerate(("door load", "space storey"))]
        code = self.assert_code(AREAS, *rules, *limits)
        self.assertEqual(code.rules, tuple(read_line(text)[1:] for text in rules))
        self.assertEqual(code.limits, tuple(read_line(text)[1:] for text in limits))
        self.assertEqual(code.rules[1], ("door", "height", ("always",), (("number", 1), ())))
        self.assertEqual(code.limits[1], ("space", "storey", ("always",), (("number", 1), ())))

    def test_areas_alone(self):
        code = self.assert_code("areas 1 2 3 4 5")
        self.assertEqual((code.areas, code.rules, code.limits), ((1, 2, 3, 4, 5), (), ()))
        self.assertEqual(code.text(), "areas 1 2 3 4 5")

    def test_limits_without_rules(self):
        code = self.assert_code(AREAS, LIMIT)
        self.assertEqual((len(code.rules), len(code.limits)), (0, 1))

    def test_canonical_text_is_read_again(self):
        texts = (
            text_of("  areas1  1 1 1   1000 ", " rule  space width when(not( kind  room ))require( own width )  "),
            text_of(AREAS, rule("5") + "  except  when(kind room)require(nothing)", limit("( quantity   load )")),
        )
        for text in texts:
            code = Code(text)
            again = Code(code.text())
            self.assertNotEqual(code.text(), text)
            self.assertEqual(again.text(), code.text())
            self.assertEqual((again.areas, again.rules, again.limits), (code.areas, code.rules, code.limits))

    def test_canonical_text_with_all_kinds_of_lines(self):
        text = text_of(AREAS, RULE, RULE, rule("(table 1 2 3)", "(and always (kind room))"), LIMIT,
                       limit("nothing except when (installed 0) require (5)"))
        self.assertEqual(Code(text).text(), text)
        self.assertEqual(Code(text.replace(" ", "  ")).text(), text)


class PlacesTest(CodesCase):
    def test_empty_texts(self):
        self.assert_wrong(1, "")
        self.assert_wrong(1, "   ")
        self.assert_wrong(1, "", "")
        self.assert_wrong(1, "", AREAS)

    def test_areas_missing(self):
        self.assert_wrong(1, RULE)
        self.assert_wrong(1, LIMIT)
        self.assert_wrong(1, RULE, AREAS)
        self.assert_wrong(1, "areas 1 1 1 1")

    def test_areas_twice(self):
        self.assert_wrong(2, AREAS, AREAS)
        self.assert_wrong(3, AREAS, RULE, AREAS)
        self.assert_wrong(4, AREAS, RULE, LIMIT, AREAS)
        self.assert_wrong(2, AREAS, AREAS, RULE)

    def test_empty_lines(self):
        self.assert_wrong(2, AREAS, "")
        self.assert_wrong(2, AREAS, "  ")
        self.assert_wrong(2, AREAS, "", RULE)
        self.assert_wrong(4, AREAS, RULE, LIMIT, "")

    def test_rule_behind_a_limit(self):
        self.assert_code(AREAS, RULE, LIMIT)
        self.assert_wrong(3, AREAS, LIMIT, RULE)
        self.assert_wrong(5, AREAS, RULE, LIMIT, LIMIT, RULE)

    def test_how_many_rules(self):
        for many in range(7):
            self.assertEqual(len(self.assert_code(AREAS, *[RULE] * many).rules), many)
        self.assert_wrong(8, AREAS, *[RULE] * 7)
        self.assert_wrong(8, AREAS, *[RULE] * 9)
        self.assert_wrong(8, AREAS, *[RULE] * 7, LIMIT)

    def test_how_many_limits(self):
        for many in range(5):
            self.assertEqual(len(self.assert_code(AREAS, *[LIMIT] * many).limits), many)
        self.assert_wrong(6, AREAS, *[LIMIT] * 5)
        self.assert_wrong(7, AREAS, RULE, *[LIMIT] * 6)

    def test_most_rules_with_most_limits(self):
        code = self.assert_code(AREAS, *[RULE] * 6, *[LIMIT] * 4)
        self.assertEqual((len(code.rules), len(code.limits)), (6, 4))
        self.assert_wrong(12, AREAS, *[RULE] * 6, *[LIMIT] * 5)
        self.assert_wrong(12, AREAS, *[RULE] * 6, *[LIMIT] * 4, RULE)
        self.assert_wrong(8, AREAS, *[RULE] * 7, *[LIMIT] * 4)

    def test_first_of_several_wrong_lines(self):
        self.assert_wrong(2, AREAS, "rule", "rule")
        self.assert_wrong(3, AREAS, RULE, "rule", AREAS)
        self.assert_wrong(1, "areas", "rule")

    def test_lines_that_are_wrong_by_the_grammar(self):
        for bad in (rule("100001"), rule("(table 1 2 2 2 2)"), limit("(own width)"), rule("(times 1 " * 13), "!"):
            self.assert_wrong(3, AREAS, RULE, bad, LIMIT)


class SizesTest(CodesCase):
    def test_how_many_tokens(self):
        # The areas have 6 tokens, the rule and each exception 7.
        self.assert_code(AREAS, RULE + EXCEPTION * 41)
        self.assert_wrong(2, AREAS, RULE + EXCEPTION * 42)
        self.assert_wrong(2, AREAS, rule("(plus 1 (plus 1 1))") + EXCEPTION * 40)
        self.assert_code(AREAS, rule("(plus 1 1)") + EXCEPTION * 40)

    def test_exactly_301_tokens(self):
        # Five areas and "areas", 7 tokens of the rule, 40 times 7, and 4 more for each plus: 301.
        self.assertEqual(6 + 7 + 40 * 7 + 4 + 4, 301)
        self.assert_wrong(2, AREAS, rule("(plus (plus 1 1) 1)") + EXCEPTION * 40)

    def test_how_many_tokens_on_several_lines(self):
        self.assert_code(AREAS, *[RULE] * 5, RULE + EXCEPTION * 36)
        self.assert_wrong(7, AREAS, *[RULE] * 5, RULE + EXCEPTION * 37)
        self.assert_wrong(2, AREAS, RULE + EXCEPTION * 42, *[RULE] * 3)
        self.assert_code(AREAS, RULE + EXCEPTION * 36, *[RULE] * 5)
        self.assert_wrong(8, AREAS, RULE + EXCEPTION * 36, *[RULE] * 5, LIMIT)
        self.assert_code(AREAS, RULE + EXCEPTION * 35, *[RULE] * 5, LIMIT)
        self.assert_wrong(8, AREAS, RULE + EXCEPTION * 35, *[RULE] * 5, limit("(share 1 1)"))

    def test_line_feeds_are_no_tokens(self):
        lines = [RULE] * 6 + [LIMIT] * 3
        self.assert_code(AREAS, *lines, LIMIT + EXCEPTION * 32)
        self.assert_wrong(11, AREAS, *lines, LIMIT + EXCEPTION * 33)

    def test_how_many_characters(self):
        self.assert_code(AREAS.ljust(2000))
        self.assert_wrong(1, AREAS.ljust(2001))
        self.assert_code(AREAS.rjust(2000))
        self.assert_wrong(1, AREAS.rjust(2001))
        self.assert_wrong(1, AREAS.ljust(5000))

    def test_line_feeds_are_characters(self):
        rest = 2000 - len(AREAS) - 1
        self.assert_code(AREAS, RULE.ljust(rest))
        self.assert_wrong(2, AREAS, RULE.ljust(rest + 1))
        self.assert_code(AREAS, RULE, LIMIT.rjust(rest - 1 - len(RULE)))
        self.assert_wrong(3, AREAS, RULE, LIMIT.rjust(rest - len(RULE)))

    def test_the_line_feed_behind_a_line_does_not_count_for_it(self):
        self.assert_wrong(2, AREAS.ljust(2000), "")
        self.assert_wrong(2, AREAS.ljust(2000), RULE)
        self.assert_wrong(3, AREAS.ljust(1999 - len(RULE)), RULE, LIMIT)

    def test_text_that_becomes_too_great_by_a_later_line(self):
        for great in (RULE + EXCEPTION * 60, RULE.ljust(2000), "(" * 3000):
            self.assert_wrong(3, AREAS, RULE, great)
            self.assert_wrong(2, AREAS, "rule", great)
            self.assert_wrong(2, AREAS, great, "rule")
            self.assert_wrong(2, AREAS, LIMIT + "!", RULE, great)
            self.assert_wrong(1, "areas", great)

    def test_line_that_is_wrong_by_itself_and_too_great(self):
        self.assert_wrong(2, AREAS, "rule".ljust(2500))
        self.assert_wrong(1, " " * 2500)
        self.assert_wrong(1, "9" * 6000)

    def test_great_canonical_texts_are_read_again(self):
        # As many characters for each token as can be.
        names = " ".join(["(atLeast chokePoints 100000)"] * 2)
        line = limit("(quantity chokePoints)", f"(or {names})", "space chokePoints")
        code = self.assert_code("areas 1000 1000 1000 1000 1000", *[line] * 4)
        self.assertEqual(Code(code.text()).limits, code.limits)
        steps = " ".join(f"{99990 + at} 100000" for at in range(6))
        requirement = f"(larger (table (sum rating neighbors) {steps}) 100000)"
        further = rule(requirement + f" except when (atLeast commonPath 100000) require ({requirement})")
        code = self.assert_code(AREAS, *[further.replace(" (", "(")] * 4)
        self.assertEqual(code.text(), text_of(AREAS, *[further] * 4))
        self.assertEqual(Code(code.text()).rules, code.rules)


if __name__ == "__main__":
    unittest.main()
