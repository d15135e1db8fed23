"""The grammar of codes: from a text to tokens, and from tokens to a tree."""

from allout.errors import HouseError
from allout.plans import ATTRIBUTES, KINDS, USES

LETTERS = "abcdefghijklmnopqrstuvwxyzABCDEFGHIJKLMNOPQRSTUVWXYZ"
DIGITS = "0123456789"

SUBJECTS = ("space", "door")
QUANTITIES = ("persons", "load", "distance", "commonPath", "doors", "area", "storey", "chokePoints")
RELATIONS = ("doors", "neighbors", "next", "before", "sides")
CONDITIONS = ("kind", "use", "installed", "atLeast", "not", "and", "or")
EXPRESSIONS_OF_VALUES = ("own", "greatest", "sum")
EXPRESSIONS = ("own", "greatest", "sum", "quantity", "table", "plus", "larger", "times", "share")

GREATEST_NUMBER = 100000
GREATEST_AREA_FOR_ONE = 1000
GREATEST_INSTALLED = 3
GREATEST_TIMES = 100
GREATEST_SHARE = 100
MOST_STEPS = 6
MOST_PARENTHESES = 12


class NotInGrammar(HouseError):
    """Tokens are not what the grammar asks for; the modules that read texts catch it."""


class Reader:
    """Tokens that are read one by one."""

    def __init__(self, tokens):
        self.tokens = tokens
        self.at = 0

    def peek(self):
        """The token that comes next; the empty string, which is no token, behind the last one."""
        if self.at == len(self.tokens):
            return ""
        return self.tokens[self.at]

    def take(self, words):
        """Read a token that has to be one of these words."""
        token = self.peek()
        if token not in words:
            raise NotInGrammar()
        self.at += 1
        return token

    def expect(self, word):
        """Read a token that has to be this word."""
        self.take((word,))

    def number(self, least, most):
        """Read a number between these bounds."""
        token = self.peek()
        if not _is_number(token) or not least <= int(token) <= most:
            raise NotInGrammar()
        self.at += 1
        return int(token)

    def finish(self):
        """Refuse tokens that are left."""
        if self.at < len(self.tokens):
            raise NotInGrammar()


def tokens_of(text):
    """The tokens of a text without line feeds, a list."""
    found = []
    at = 0
    while at < len(text):
        end = _end_of_token(text, at)
        if text[at] != " ":
            found.append(text[at:end])
        at = end
    return found


def line_of(tokens):
    """The tree of the line that has these tokens; raises NotInGrammar."""
    _check_parentheses(tokens)
    reader = Reader(tokens)
    word = reader.take(("areas", "rule", "limit"))
    if word == "areas":
        tree = (word, tuple([reader.number(1, GREATEST_AREA_FOR_ONE) for _ in USES]))
    else:
        tree = (word,) + _demand(reader, ATTRIBUTES if word == "rule" else QUANTITIES)
    reader.finish()
    # Nothing but such an expression can have one of these words.
    if word == "limit" and any(token in EXPRESSIONS_OF_VALUES for token in tokens):
        raise NotInGrammar()
    return tree


def condition_tree(tokens):
    """The tree of the condition that has these tokens; raises NotInGrammar."""
    _check_parentheses(tokens)
    reader = Reader(tokens)
    tree = _condition(reader)
    reader.finish()
    return tree


def _end_of_token(text, at):
    for signs in (LETTERS, DIGITS):
        if text[at] in signs:
            end = at + 1
            while end < len(text) and text[end] in signs:
                end += 1
            return end
    return at + 1


def _is_number(token):
    # A longer run of digits is above every bound, and may be too long for an integer.
    if not 1 <= len(token) <= len(str(GREATEST_NUMBER)):
        return False
    return all(sign in DIGITS for sign in token) and str(int(token)) == token


def _check_parentheses(tokens):
    depth = 0
    for token in tokens:
        if token == "(":
            depth += 1
        elif token == ")":
            depth -= 1
        if depth > MOST_PARENTHESES:
            raise NotInGrammar()


def _demand(reader, names):
    subject = reader.take(SUBJECTS)
    name = reader.take(names)
    reader.expect("when")
    condition = _condition(reader)
    reader.expect("require")
    return (subject, name, condition, _requirement(reader))


def _condition(reader):
    if reader.take(("always", "(")) == "always":
        return ("always",)
    tree = _condition_inside(reader)
    reader.expect(")")
    return tree


def _condition_inside(reader):
    word = reader.take(CONDITIONS)
    if word == "kind":
        return (word, reader.take(KINDS))
    if word == "use":
        return (word, reader.take(USES))
    if word == "installed":
        return (word, reader.number(0, GREATEST_INSTALLED))
    if word == "atLeast":
        name = reader.take(QUANTITIES)
        return (word, name, reader.number(0, GREATEST_NUMBER))
    first = _condition(reader)
    if word == "not":
        return (word, first)
    return (word, first, _condition(reader))


def _requirement(reader):
    value = _value(reader)
    exceptions = []
    while reader.peek() == "except":
        reader.expect("except")
        reader.expect("when")
        condition = _condition(reader)
        reader.expect("require")
        reader.expect("(")
        exceptions.append((condition, _requirement(reader)))
        reader.expect(")")
    return (value, tuple(exceptions))


def _value(reader):
    if reader.peek() == "nothing":
        return (reader.take(("nothing",)),)
    return _expression(reader)


def _expression(reader):
    if reader.peek() != "(":
        return ("number", reader.number(0, GREATEST_NUMBER))
    reader.expect("(")
    tree = _expression_inside(reader)
    reader.expect(")")
    return tree


def _expression_inside(reader):
    word = reader.take(EXPRESSIONS)
    if word == "own":
        return (word, reader.take(ATTRIBUTES))
    if word in EXPRESSIONS_OF_VALUES:
        attribute = reader.take(ATTRIBUTES)
        return (word, attribute, reader.take(RELATIONS))
    if word == "quantity":
        return (word, reader.take(QUANTITIES))
    if word == "times":
        number = reader.number(0, GREATEST_TIMES)
        return (word, number, _expression(reader))
    first = _expression(reader)
    if word == "table":
        return (word, first, _steps(reader))
    if word == "share":
        return (word, first, reader.number(1, GREATEST_SHARE))
    return (word, first, _expression(reader))


def _steps(reader):
    found = []
    while reader.peek() != ")":
        start = reader.number(0, GREATEST_NUMBER)
        found.append((start, reader.number(0, GREATEST_NUMBER)))
    if not 1 <= len(found) <= MOST_STEPS:
        raise NotInGrammar()
    for (start, value), (later_start, later_value) in zip(found, found[1:]):
        if start >= later_start or value > later_value:
            raise NotInGrammar()
    return tuple(found)
