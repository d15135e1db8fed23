"""Codes: texts with areas, rules and limits, their trees, and their canonical texts."""

from allout.errors import FaultyCondition, FaultyLine
from allout.grammar import NotInGrammar, condition_tree, line_of, tokens_of

MOST_CHARACTERS = 2000
MOST_TOKENS = 300
MOST_RULES = 6
MOST_LIMITS = 4


class Code:
    """A code: the areas for one person, the rules and the limits."""

    def __init__(self, text):
        lines = _good_lines(text)
        wrong = _line_behind(lines, text)
        if wrong is not None:
            raise FaultyLine(wrong)
        self.areas = lines[0][1]
        self.rules = tuple(line[1:] for line in lines if line[0] == "rule")
        self.limits = tuple(line[1:] for line in lines if line[0] == "limit")

    def text(self):
        """The canonical text."""
        lines = [("areas", self.areas)]
        lines += [("rule",) + rule for rule in self.rules]
        lines += [("limit",) + limit for limit in self.limits]
        return "\n".join([print_line(line) for line in lines])


def first_wrong_line(text):
    """The number of the first wrong line of a text, counted from 1, or None."""
    return _line_behind(_good_lines(text), text)


def read_line(text):
    """The tree of a line, or None if it is none by the grammar."""
    return _tree_or_none(tokens_of(text))


def print_line(line):
    """The canonical text of the tree of a line."""
    if line[0] == "areas":
        return " ".join(["areas"] + [str(area) for area in line[1]])
    word, subject, name, condition, requirement = line
    return f"{word} {subject} {name} when {_tree_text(condition)} require {_requirement_text(requirement)}"


def condition_of(text):
    """The tree of a condition; raises FaultyCondition."""
    if "\n" in text or len(text) > MOST_CHARACTERS:
        raise FaultyCondition()
    try:
        return condition_tree(tokens_of(text))
    except NotInGrammar:
        raise FaultyCondition() from None


def _good_lines(text):
    """The trees of the lines ahead of the first wrong one, or of all lines."""
    found = []
    many_tokens = 0
    # The first line has no line feed ahead of it.
    many_characters = -1
    for line in text.split("\n"):
        tokens = tokens_of(line)
        many_tokens += len(tokens)
        many_characters += 1 + len(line)
        if many_tokens > MOST_TOKENS or many_characters > MOST_CHARACTERS:
            break
        tree = _tree_or_none(tokens)
        if tree is None or not _may_follow(tree[0], [before[0] for before in found]):
            break
        found.append(tree)
    return found


def _line_behind(lines, text):
    """The number of the line of the text behind these ones, or None if they are all."""
    if len(lines) <= text.count("\n"):
        return len(lines) + 1
    return None


def _may_follow(word, words):
    """Tell whether a line with this first word may stand behind lines with these."""
    if word == "areas" or not words:
        return word == "areas" and not words
    if word == "rule":
        return "limit" not in words and words.count("rule") < MOST_RULES
    return words.count("limit") < MOST_LIMITS


def _tree_or_none(tokens):
    try:
        return line_of(tokens)
    except NotInGrammar:
        return None


def _requirement_text(requirement):
    value, exceptions = requirement
    text = _tree_text(value)
    for condition, inner in exceptions:
        text += f" except when {_tree_text(condition)} require ({_requirement_text(inner)})"
    return text


def _tree_text(tree):
    """The text of a condition, of an expression, or of nothing."""
    word = tree[0]
    if word in ("always", "nothing"):
        return word
    if word == "number":
        return str(tree[1])
    if word == "table":
        numbers = [str(number) for step in tree[2] for number in step]
        parts = [word, _tree_text(tree[1])] + numbers
    else:
        parts = [word] + [_part_text(part) for part in tree[1:]]
    return "(" + " ".join(parts) + ")"


def _part_text(part):
    if isinstance(part, tuple):
        return _tree_text(part)
    return str(part)
