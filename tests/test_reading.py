"""Points 21, 22 and 24 to 26: lines, their trees, canonical texts, and conditions alone."""

import unittest

from allout.codes import condition_of, print_line, read_line
from allout.errors import FaultyCondition

KINDS = ("room", "corridor", "stair", "outside")
USES = ("assembly", "office", "shop", "storage", "home")
ATTRIBUTES = ("width", "rating", "height")
QUANTITIES = ("persons", "load", "distance", "commonPath", "doors", "area", "storey", "chokePoints")
RELATIONS = ("doors", "neighbors", "next", "before", "sides")

ALWAYS = ("always",)
NOTHING = (("nothing",), ())
RULE = "rule space width when always require "
LIMIT = "limit space load when always require "

CONDITIONS = (
    ("always", ALWAYS),
    *((f"(kind {kind})", ("kind", kind)) for kind in KINDS),
    *((f"(use {use})", ("use", use)) for use in USES),
    *((f"(installed {number})", ("installed", number)) for number in range(4)),
    *((f"(atLeast {name} {number})", ("atLeast", name, number)) for name in QUANTITIES for number in (0, 7, 100000)),
    ("(not always)", ("not", ALWAYS)),
    ("(not (kind room))", ("not", ("kind", "room"))),
    ("(and always (use home))", ("and", ALWAYS, ("use", "home"))),
    ("(or (installed 1) always)", ("or", ("installed", 1), ALWAYS)),
    (
        "(and (or always (not (kind stair))) (not (and always always)))",
        ("and", ("or", ALWAYS, ("not", ("kind", "stair"))), ("not", ("and", ALWAYS, ALWAYS))),
    ),
)
EXPRESSIONS_OF_BOTH = (
    *((str(number), ("number", number)) for number in (0, 1, 10, 99999, 100000)),
    *((f"(quantity {name})", ("quantity", name)) for name in QUANTITIES),
    ("(table 5 0 0)", ("table", ("number", 5), ((0, 0),))),
    ("(table (quantity load) 1 2 3 4)", ("table", ("quantity", "load"), ((1, 2), (3, 4)))),
    (
        "(table 0 0 7 1 7 2 7 3 8 99999 100000 100000 100000)",
        ("table", ("number", 0), ((0, 7), (1, 7), (2, 7), (3, 8), (99999, 100000), (100000, 100000))),
    ),
    ("(plus 1 2)", ("plus", ("number", 1), ("number", 2))),
    ("(larger 2 (plus 0 1))", ("larger", ("number", 2), ("plus", ("number", 0), ("number", 1)))),
    ("(times 0 3)", ("times", 0, ("number", 3))),
    ("(times 100 (share 7 2))", ("times", 100, ("share", ("number", 7), 2))),
    ("(share 3 1)", ("share", ("number", 3), 1)),
    ("(share (times 9 8) 100)", ("share", ("times", 9, ("number", 8)), 100)),
)
EXPRESSIONS_OF_RULES = (
    *((f"(own {name})", ("own", name)) for name in ATTRIBUTES),
    *((f"(greatest {name} {by})", ("greatest", name, by)) for name in ATTRIBUTES for by in RELATIONS),
    *((f"(sum {name} {by})", ("sum", name, by)) for name in ATTRIBUTES for by in RELATIONS),
    ("(plus (own width) (sum height next))", ("plus", ("own", "width"), ("sum", "height", "next"))),
    ("(table (own rating) 1 1)", ("table", ("own", "rating"), ((1, 1),))),
)
REQUIREMENTS = (
    ("nothing", NOTHING),
    ("5", (("number", 5), ())),
    ("5 except when always require (nothing)", (("number", 5), ((ALWAYS, NOTHING),))),
    (
        "nothing except when (kind room) require (1) except when always require (2)",
        (("nothing",), ((("kind", "room"), (("number", 1), ())), (ALWAYS, (("number", 2), ())))),
    ),
    (
        "1 except when always require (2 except when (use shop) require (nothing except when always require (3)))",
        (("number", 1), ((ALWAYS, (("number", 2), ((("use", "shop"), (
            ("nothing",), ((ALWAYS, (("number", 3), ())),))),))),)),
    ),
)


def lines():
    """All texts of lines above, canonical, with their trees."""
    yield "areas 1 10 5 30 20", ("areas", (1, 10, 5, 30, 20))
    yield "areas 1 1000 1 1000 999", ("areas", (1, 1000, 1, 1000, 999))
    for subject in ("space", "door"):
        for name in ATTRIBUTES:
            yield f"rule {subject} {name} when always require nothing", ("rule", subject, name, ALWAYS, NOTHING)
        for name in QUANTITIES:
            yield f"limit {subject} {name} when always require nothing", ("limit", subject, name, ALWAYS, NOTHING)
    for text, tree in CONDITIONS:
        yield f"rule door rating when {text} require 4", ("rule", "door", "rating", tree, (("number", 4), ()))
        yield f"limit door area when {text} require 4", ("limit", "door", "area", tree, (("number", 4), ()))
        further = (("number", 4), ((tree, NOTHING),))
        yield RULE + f"4 except when {text} require (nothing)", ("rule", "space", "width", ALWAYS, further)
    for text, tree in REQUIREMENTS + tuple((text, (tree, ())) for text, tree in EXPRESSIONS_OF_BOTH):
        yield RULE + text, ("rule", "space", "width", ALWAYS, tree)
        yield LIMIT + text, ("limit", "space", "load", ALWAYS, tree)
    for text, tree in EXPRESSIONS_OF_RULES:
        yield RULE + text, ("rule", "space", "width", ALWAYS, (tree, ()))


def with_blanks(text):
    """The same tokens with several blanks everywhere."""
    for sign in "()":
        text = text.replace(sign, f" {sign} ")
    return "   " + text.replace(" ", "   ") + "  "


def touching(text):
    """The same tokens with no blank that can be left out beside a parenthesis."""
    for sign in "()":
        text = text.replace(f" {sign}", sign).replace(f"{sign} ", sign)
    return text


class ReadingCase(unittest.TestCase):
    def assert_read(self, *texts):
        for text in texts:
            self.assertIsNotNone(read_line(text), text)

    def assert_no_line(self, *texts):
        for text in texts:
            self.assertIsNone(read_line(text), text)


class TreesTest(ReadingCase):
    def test_trees(self):
        for text, tree in lines():
            self.assertEqual(read_line(text), tree, text)

    def test_canonical_texts(self):
        for text, tree in lines():
            self.assertEqual(print_line(tree), text)

    def test_blanks_change_nothing(self):
        for text, tree in lines():
            self.assertEqual(read_line(with_blanks(text)), tree, text)
            self.assertEqual(read_line(touching(text)), tree, text)
            self.assertEqual(print_line(read_line(with_blanks(text))), text)

    def test_document_example(self):
        expected = ("limit", "space", "load", ALWAYS, (("nothing",), ()))
        self.assertEqual(read_line("limit space load when always require nothing"), expected)

    def test_every_missing_and_every_doubled_token(self):
        text = "rule door width when (and (use home) (atLeast load 1)) require (table (own width) 1 2)"
        text += " except when (not always) require (nothing)"
        tokens = with_blanks(text).split()
        self.assert_read(" ".join(tokens))
        for at in range(len(tokens)):
            self.assert_no_line(" ".join(tokens[:at] + tokens[at + 1:]))
            self.assert_no_line(" ".join(tokens[:at + 1] + tokens[at:]))

    def test_every_begin_of_a_line_is_no_line(self):
        text = "limit space load when (or always (kind room)) require (plus (share 1 2) (quantity area))"
        tokens = with_blanks(text).split()
        self.assert_read(text)
        for many in range(len(tokens)):
            self.assert_no_line(" ".join(tokens[:many]))


class TokensTest(ReadingCase):
    def test_runs_of_letters_and_digits_are_told_apart(self):
        self.assertEqual(read_line("areas1 10 5 30 20"), ("areas", (1, 10, 5, 30, 20)))
        self.assertEqual(read_line("rule space width when always require5"), read_line(RULE + "5"))
        self.assertEqual(read_line(RULE + "5except when always require(7)"),
                         read_line(RULE + "5 except when always require (7)"))
        self.assertEqual(read_line(RULE + "(times 7(own width))"), read_line(RULE + "(times 7 (own width))"))
        self.assertEqual(read_line(RULE + "(times7(own width))"), read_line(RULE + "(times 7 (own width))"))
        self.assertEqual(read_line("rule space width when(installed2)require 1"),
                         read_line("rule space width when (installed 2) require 1"))

    def test_words_that_touch_are_one_word(self):
        self.assert_no_line("rulespace width when always require 5", "rule space width when alwaysrequire 5")
        self.assert_no_line("rule space width whenalways require 5", RULE[:-1] + "nothingexcept when always require (1)")

    def test_words_that_are_torn_are_two_words(self):
        self.assert_no_line("ru le space width when always require 5", LIMIT.replace("load", "common Path") + "5")
        self.assert_no_line("are as 1 1 1 1 1", "rule space width when (at Least load 1) require 5")

    def test_numbers_that_are_torn_are_two_numbers(self):
        self.assert_no_line("areas 1 1 1 1 1 1", "areas 1 1 1 1", "areas 11 1 1 1", RULE + "1 0")
        self.assertEqual(read_line("areas 11 1 1 1 1"), ("areas", (11, 1, 1, 1, 1)))
        self.assertEqual(read_line(RULE + "(table 5 1 2)"), read_line(RULE + "(table 5  1  2)"))

    def test_case_matters(self):
        for text in ("Rule space width when always require 5", RULE.upper() + "5", RULE + "Nothing"):
            self.assert_no_line(text)
        for name in ("commonpath", "CommonPath", "chokepoints", "Load", "LOAD"):
            self.assert_no_line(f"limit space {name} when always require 5")
        self.assert_no_line("rule space width when (atleast load 1) require 5")

    def test_signs_that_are_no_token_of_the_grammar(self):
        good = "rule space width when (kind room) require (plus 1 2)"
        self.assert_read(good)
        for sign in "!\"#$&'*+,-./:;<=>?@[\\]^_`{|}~":
            self.assert_no_line(good + sign, sign + good, good + " " + sign, good.replace(" 1 ", f" {sign}1 "))
            self.assert_no_line(good.replace(" 1 ", f" {sign} "), good.replace("kind ", f"kind{sign}"))
            self.assert_no_line(good.replace("width", f"wi{sign}dth"), good.replace("width", sign), sign)
        for sign in "()":
            self.assert_no_line(good + sign, sign + good, good.replace("width", sign), sign)

    def test_empty_lines(self):
        self.assert_no_line("", " ", "     ")

    def test_blanks_ahead_and_behind(self):
        self.assertEqual(read_line("    areas 1 1 1 1 1"), ("areas", (1, 1, 1, 1, 1)))
        self.assertEqual(read_line("areas   1 1 1 1   1    "), ("areas", (1, 1, 1, 1, 1)))

    def test_long_lines_of_blanks_are_lines(self):
        self.assertEqual(read_line("areas 1 1 1 1 1" + " " * 5000), ("areas", (1, 1, 1, 1, 1)))


class NumbersTest(ReadingCase):
    def test_leading_zeros(self):
        self.assert_read(RULE + "0", RULE + "10", RULE + "100000", "areas 1 10 100 1000 1")
        self.assert_no_line(RULE + "00", RULE + "01", RULE + "007", RULE + "0100000", "areas 01 1 1 1 1")
        self.assert_no_line(RULE + "(table 1 0 00)", RULE + "(table 1 00 0)", RULE + "(times 01 1)")
        self.assert_no_line("rule space width when (installed 00) require 1")
        self.assert_no_line("rule space width when (atLeast load 00) require 1")
        self.assert_no_line(RULE + "(share 1 01)")

    def check_bounds(self, text, least, most):
        self.assert_read(text.format(least), text.format(most))
        self.assert_no_line(text.format(most + 1), text.format("-1"), text.format(""), text.format("1.5"))
        self.assert_no_line(text.format("9" * 7), text.format("1" + "0" * 20), text.format("9" * 5000))
        if least > 0:
            self.assert_no_line(text.format(least - 1))

    def test_areas(self):
        for at in range(5):
            self.check_bounds("areas" + " 1" * at + " {}" + " 1" * (4 - at), 1, 1000)

    def test_numbers_of_expressions(self):
        self.check_bounds(RULE + "{}", 0, 100000)
        self.check_bounds(LIMIT + "{}", 0, 100000)
        self.check_bounds(RULE + "(plus 1 {})", 0, 100000)

    def test_at_least(self):
        for name in QUANTITIES:
            self.check_bounds(f"rule space width when (atLeast {name} {{}}) require 1", 0, 100000)

    def test_installed(self):
        self.check_bounds("rule space width when (installed {}) require 1", 0, 3)

    def test_times_and_share(self):
        self.check_bounds(RULE + "(times {} 1)", 0, 100)
        self.check_bounds(RULE + "(share 1 {})", 1, 100)

    def test_steps(self):
        self.check_bounds(RULE + "(table 1 {} 1)", 0, 100000)
        self.check_bounds(RULE + "(table 1 1 {})", 0, 100000)


class TablesTest(ReadingCase):
    def test_how_many_steps(self):
        for many in range(1, 7):
            self.assert_read(RULE + "(table 1 " + " ".join(f"{at} {at}" for at in range(many)) + ")")
        for many in (7, 8):
            self.assert_no_line(RULE + "(table 1 " + " ".join(f"{at} {at}" for at in range(many)) + ")")
        self.assert_no_line(RULE + "(table 1)", RULE + "(table)", RULE + "(table (own width))")

    def test_half_a_step(self):
        self.assert_no_line(RULE + "(table 1 2)", RULE + "(table 1 2 3 4)", RULE + "(table (own width) 1 2 3)")

    def test_steps_are_numbers(self):
        self.assert_no_line(RULE + "(table 1 (own width) 1)", RULE + "(table 1 1 (own width))")
        self.assert_no_line(RULE + "(table 1 1 nothing)")

    def test_starts_ascend(self):
        self.assert_read(RULE + "(table 1 0 5 1 5)", RULE + "(table 1 4 5 5 5 9 5)")
        self.assert_no_line(RULE + "(table 1 3 5 3 5)", RULE + "(table 1 3 5 2 6)", RULE + "(table 1 3 5 3 6)")
        self.assert_no_line(RULE + "(table 1 1 1 2 2 3 3 3 4)", RULE + "(table 1 1 1 2 2 3 3 2 4)")

    def test_values_do_not_decrease(self):
        self.assert_read(RULE + "(table 1 1 5 2 5 3 6)")
        self.assert_no_line(RULE + "(table 1 1 5 2 4)", RULE + "(table 1 1 1 2 2 3 1)", RULE + "(table 1 0 1 1 0)")

    def test_the_expression_is_not_among_the_steps(self):
        self.assert_read(RULE + "(table 9 1 1)", RULE + "(table 0 1 1)", RULE + "(table 1 1 1)")

    def test_tables_of_limits(self):
        self.assert_read(LIMIT + "(table (quantity area) 0 5 9 9)")
        self.assert_no_line(LIMIT + "(table (quantity area) 0 5 9 4)", LIMIT + "(table (quantity area))")


class ParenthesesTest(ReadingCase):
    def nested(self, many):
        """A condition, an expression and exceptions with so many parentheses open at once."""
        yield f"rule space width when {'(not ' * many}always{')' * many} require 1"
        yield RULE + "(times 1 " * many + "1" + ")" * many
        yield RULE + "(plus 1 " * (many - 1) + "(own width)" + ")" * (many - 1)
        yield LIMIT + "(plus " * many + "1" + " 1)" * many
        yield RULE + "1 except when always require (" * many + "1" + ")" * many
        yield RULE + "1 except when always require (" * (many - 1) + "(own width)" + ")" * (many - 1)
        yield (RULE + "1 except when always require (" * (many - 1) + "1 except when (not always) require (1)"
               + ")" * (many - 1))

    def test_twelve_parentheses(self):
        for text in self.nested(12):
            self.assert_read(text)

    def test_thirteen_parentheses(self):
        for many in (13, 14, 40):
            for text in self.nested(many):
                self.assert_no_line(text)

    def test_only_those_that_are_open_at_the_same_time_count(self):
        self.assert_read(RULE + "1" + " except when (not always) require (1)" * 20)
        self.assert_read(RULE + "(plus (times 1 1) " * 11 + "(times 1 1)" + ")" * 11)

    def test_parentheses_that_are_closed_do_not_count(self):
        begin = "rule space width when (and (kind room) (not (use home))) require "
        exception = " except when (or (kind room) (kind stair)) require "
        for nested, check in ((12, self.assert_read), (13, self.assert_no_line)):
            check(begin + "(times 1 " * nested + "1" + ")" * nested)
            inner = "(times 1 " * (nested - 1) + "1" + ")" * (nested - 1)
            check(begin + "(own width)" + exception + "(1)" + exception + f"({inner})")

    def test_parentheses_that_do_not_match(self):
        self.assert_no_line(RULE + "(own width", RULE + "own width)", RULE + "(own width))", RULE + "((own width))")
        self.assert_no_line(RULE + "(5)", RULE + "(nothing)", "rule space width when (always) require 1")
        self.assert_no_line(RULE + "1 except when always require 1", RULE + "1 (except when always require (1))")
        self.assert_no_line(RULE + ")(" * 5, RULE + "(" * 2000, RULE + "(not " * 2000)


class WordsTest(ReadingCase):
    def test_words_at_wrong_places(self):
        for word in ("room", "door", "width", "load", "always", "nothing", "doors", "areas", "1", "("):
            self.assert_no_line(f"{word} space width when always require 1")
        for word in ("room", "doors", "width", "spaces", "load", "always", "1"):
            self.assert_no_line(f"rule {word} width when always require 1", f"limit {word} load when always require 1")
        for word in ("room", "always", "load", "doors", "space", "area"):
            self.assert_no_line(f"rule space {word} when always require 1")
        for word in ("width", "rating", "height", "room", "always", "neighbors", "space"):
            self.assert_no_line(f"limit space {word} when always require 1")

    def test_conditions_with_wrong_words(self):
        for text in ("(kind office)", "(use room)", "(kind)", "(use)", "(kind room stair)", "(installed)", "(always)",
                     "(installed room)", "(atLeast load)", "(atLeast 1)", "(atLeast 1 load)", "(atLeast width 1)",
                     "(not)", "(not always always)", "(and always)", "(and always always always)", "(or always)",
                     "(or)", "()", "(and)", "(own width)", "nothing", "1", "kind room", "(xor always always)"):
            self.assert_no_line(f"rule space width when {text} require 1")

    def test_expressions_with_wrong_words(self):
        for text in ("(own)", "(own load)", "(own width doors)", "(greatest width)", "(greatest doors width)",
                     "(greatest width room)", "(sum width)", "(sum load doors)", "(sum width doors next)",
                     "(quantity)", "(quantity width)", "(quantity load 1)", "(plus 1)", "(plus 1 2 3)", "(larger 1)",
                     "(larger 1 2 3)", "(times 1)", "(times 1 2 3)", "(times (own width) 2)", "(share 1)",
                     "(share 1 (own width))", "(share 1 2 3)", "(minus 1 2)", "()", "(plus nothing 1)", "always",
                     "(larger 1 nothing)", "(kind room)", "own width"):
            self.assert_no_line(RULE + text)

    def test_exceptions_with_wrong_words(self):
        for text in ("except always require (1)", "except when require (1)", "except when always (1)",
                     "except when always require ()", "except when always require (1", "when always require (1)",
                     "except when always require (1) 2", "except when always require (1 2)", "except"):
            self.assert_no_line(RULE + "1 " + text, RULE + text)

    def test_areas_with_wrong_words(self):
        self.assert_no_line("areas", "areas 1 1 1 1", "areas 1 1 1 1 1 1", "areas 1 1 1 1 room", "1 1 1 1 1")
        self.assert_no_line("areas (1 1 1 1 1)", "areas 1 1 1 1 1 when always require 1")


class LimitsTest(ReadingCase):
    """No expression in a limit, its exceptions included, contains own, greatest or sum."""

    def test_ahead_of_the_exceptions(self):
        for text, _ in EXPRESSIONS_OF_RULES:
            self.assert_read(RULE + text)
            self.assert_no_line(LIMIT + text)

    def test_deep_within(self):
        for text in ("(own width)", "(greatest height doors)", "(sum rating neighbors)"):
            for begin, end in (
                ("(plus 1 ", ")"), ("(plus ", " 1)"), ("(larger (times 2 (share ", " 2)) 1)"), ("(table ", " 1 1)"),
                ("1 except when always require (", ")"),
                ("nothing except when always require (1) except when always require (", ")"),
                ("1 except when always require (nothing except when always require ((times 3 ", ")))"),
            ):
                self.assert_read(RULE + begin + text + end)
                self.assert_read(LIMIT + begin + "(quantity load)" + end)
                self.assert_no_line(LIMIT + begin + text + end)


class ConditionsTest(unittest.TestCase):
    def assert_refused(self, *texts):
        for text in texts:
            with self.assertRaises(FaultyCondition, msg=text):
                condition_of(text)

    def test_all_conditions(self):
        for text, tree in CONDITIONS:
            self.assertEqual(condition_of(text), tree)
            self.assertEqual(condition_of(with_blanks(text)), tree)
            self.assertEqual(condition_of(touching(text)), tree)

    def test_damaged_texts(self):
        text = "(and (or (kind room) (not always)) (atLeast load 12))"
        tokens = with_blanks(text).split()
        condition_of(" ".join(tokens))
        for at, token in enumerate(tokens):
            self.assert_refused(" ".join(tokens[:at] + tokens[at + 1:]))
            self.assert_refused(" ".join(tokens[:at + 1] + tokens[at:]))
            self.assert_refused(" ".join(tokens[:at] + [token + "!"] + tokens[at + 1:]))

    def test_texts_that_are_no_condition(self):
        self.assert_refused("", "   ", "nothing", "5", "always always", "when always", "(always)", "kind room", "()")
        self.assert_refused(RULE + "1", "areas 1 1 1 1 1", "(installed 4)", "(atLeast load 100001)", "(own width)")
        self.assert_refused("(installed 01)", "(atLeast load 00)", "Always", "alwaysalways")

    def test_line_feeds(self):
        self.assert_refused("always\n", "\nalways", "(not\nalways)", "(not \n always)", "\n")

    def test_how_many_characters(self):
        self.assertEqual(condition_of("always" + " " * 1994), ALWAYS)
        self.assertEqual(condition_of(" " * 1994 + "always"), ALWAYS)
        self.assertEqual(condition_of("(not" + " " * 1989 + "always)"), ("not", ALWAYS))
        self.assert_refused("always" + " " * 1995, " " * 1995 + "always", "(not" + " " * 1990 + "always)")
        self.assert_refused("always" + " " * 3000)

    def test_parentheses(self):
        tree = ALWAYS
        for _ in range(12):
            tree = ("not", tree)
        self.assertEqual(condition_of("(not " * 12 + "always" + ")" * 12), tree)
        self.assert_refused("(not " * 13 + "always" + ")" * 13, "(" * 1500, "(not " * 300)

    def test_more_tokens_than_a_code_may_have(self):
        text = "always"
        for _ in range(6):
            text = f"(or {text} {text})"
        self.assertGreater(len(with_blanks(text).split()), 250)
        text = f"(and {text} (and {text} always))"
        self.assertLessEqual(len(text), 2000)
        self.assertGreater(len(with_blanks(text).split()), 500)
        tree = condition_of(text)
        self.assertEqual((tree[0], tree[2][0], tree[2][2]), ("and", "and", ALWAYS))
        self.assertEqual(tree[1], tree[2][1])


if __name__ == "__main__":
    unittest.main()
