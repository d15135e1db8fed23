"""Builders of codes for the tests."""

from allout.codes import Code

AREAS = "areas 1 10 5 30 20"
SAME = "areas 10 10 10 10 10"


def code(*lines, areas=AREAS):
    """A code of these lines behind a line with areas."""
    return Code("\n".join((areas,) + lines))


def rule(requirement, condition="always", about="space width"):
    return f"rule {about} when {condition} require {requirement}"


def limit(requirement, condition="always", about="space load"):
    return f"limit {about} when {condition} require {requirement}"


def value_tree(text, about="space width"):
    """The tree of an expression, by way of a rule."""
    return code(rule(text, about=about)).rules[0][3][0]
