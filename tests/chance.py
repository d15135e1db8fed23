"""Plans and codes by chance, from a source of random numbers with a fixed seed."""

from allout.plans import Plan

KINDS = ("room", "room", "corridor", "stair", "outside")
USES = ("assembly", "office", "shop", "storage", "home")
ATTRIBUTES = ("width", "rating", "height")
QUANTITIES = ("persons", "load", "distance", "commonPath", "doors", "area", "storey", "chokePoints")
RELATIONS = ("doors", "neighbors", "next", "before", "sides")
FALSE = ("not", ("always",))


def some_triples(source):
    greatest = tuple(source.choice((5, 1000, 1000, 1000)) for _ in ATTRIBUTES)
    return tuple(source.randint(0, min(most, 8)) for most in greatest), greatest


def some_plan(source):
    many = source.randint(2, 8)
    spaces = tuple(
        (source.choice(KINDS), source.choice(USES), source.randint(0, 60), source.randint(1, 4), source.randint(0, 3))
        + some_triples(source)
        for _ in range(many)
    )
    doors = tuple(
        (*source.sample(range(many), 2), source.choice((None, None, None, 0, 1, 2))) + some_triples(source)
        for _ in range(source.choice((1, 4, 8, 12)))
    )
    return Plan(spaces, doors, (10, 20, 30), (3, 5, 2))


def some_condition(source, depth):
    word = source.choice(("always", "kind", "use", "installed", "atLeast", "atLeast", "not", "and", "or"))
    if depth == 0 or word == "always":
        return ("always",)
    if word == "kind":
        return (word, source.choice(KINDS))
    if word == "use":
        return (word, source.choice(USES))
    if word == "installed":
        return (word, source.randint(0, 3))
    if word == "atLeast":
        return (word, source.choice(QUANTITIES), source.choice((0, 1, 2, 3, 5, 10, 40)))
    first = some_condition(source, depth - 1)
    return (word, first) if word == "not" else (word, first, some_condition(source, depth - 1))


def some_steps(source):
    many = source.randint(1, 6)
    starts = sorted(source.sample(range(12), many))
    return tuple(zip(starts, sorted(source.randint(0, 12) for _ in range(many))))


def some_expression(source, depth, of_values):
    words = ("number", "quantity", "table", "plus", "larger", "times", "share")
    words += ("own", "greatest", "sum", "greatest") * of_values
    word = source.choice(words)
    if depth == 0 or word == "number":
        return ("number", source.choice((0, 1, 2, 3, 7, 15)))
    if word == "own":
        return (word, source.choice(ATTRIBUTES))
    if word in ("greatest", "sum"):
        return (word, source.choice(ATTRIBUTES), source.choice(RELATIONS))
    if word == "quantity":
        return (word, source.choice(QUANTITIES))
    if word == "times":
        return (word, source.choice((0, 1, 1, 2, 100)), some_expression(source, depth - 1, of_values))
    first = some_expression(source, depth - 1, of_values)
    if word == "table":
        return (word, first, some_steps(source))
    if word == "share":
        return (word, first, source.choice((1, 2, 3, 100)))
    return (word, first, some_expression(source, depth - 1, of_values))


def some_requirement(source, depth, of_values):
    value = ("nothing",) if source.random() < 0.2 else some_expression(source, depth, of_values)
    many = source.choice((0, 0, 1, 2)) if depth > 1 else 0
    exceptions = tuple(
        (some_condition(source, 2), some_requirement(source, depth - 1, of_values)) for _ in range(many)
    )
    return (value, exceptions)


def some_line(source, word):
    subject = source.choice(("space", "door"))
    if word == "rule":
        name = source.choice(ATTRIBUTES)
        return (word, subject, name, some_condition(source, 2), some_requirement(source, 3, True))
    condition = some_condition(source, 2)
    # Most limits that are made by chance do not hold, and then nothing else is seen of a code.
    if source.random() < 0.5:
        condition = ("and", condition, ("and", ("atLeast", "storey", 2), ("kind", "stair")))
    return (word, subject, source.choice(QUANTITIES), condition, some_requirement(source, 3, False))


def some_lines(source):
    """The trees of the lines of a code; their texts are seldom longer than those of a code may be."""
    areas = ("areas", tuple(source.choice((1, 2, 10, 1000)) for _ in USES))
    rules = [some_line(source, "rule") for _ in range(source.choice((0, 1, 2, 3, 6)))]
    limits = [some_line(source, "limit") for _ in range(source.choice((0, 0, 0, 1, 2, 4)))]
    return [areas] + rules + limits


def tokens_of_tree(tree):
    """The tokens of a condition or of an expression."""
    word = tree[0]
    if word in ("always", "nothing"):
        return [word]
    if word == "number":
        return [str(tree[1])]
    found = ["(", word]
    for part in tree[1:]:
        if isinstance(part, tuple) and isinstance(part[0], tuple):
            found += [str(number) for step in part for number in step]
        elif isinstance(part, tuple):
            found += tokens_of_tree(part)
        else:
            found.append(str(part))
    return found + [")"]


def tokens_of_requirement(requirement):
    value, exceptions = requirement
    found = tokens_of_tree(value)
    for condition, inner in exceptions:
        found += ["except", "when"] + tokens_of_tree(condition) + ["require", "("]
        found += tokens_of_requirement(inner) + [")"]
    return found


def tokens_of_line(line):
    if line[0] == "areas":
        return ["areas"] + [str(area) for area in line[1]]
    word, subject, name, condition, requirement = line
    return ([word, subject, name, "when"] + tokens_of_tree(condition) + ["require"]
            + tokens_of_requirement(requirement))


def plain_text(tokens):
    """The tokens with the blanks of a canonical text."""
    text = ""
    for before, token in zip([""] + tokens, tokens):
        text += token if before in ("", "(") or token == ")" else " " + token
    return text


def some_text(source, tokens):
    """The tokens with any blanks, none only where the tokens stay the same."""
    text = " " * source.choice((0, 0, 2))
    for token, behind in zip(tokens, tokens[1:] + [""]):
        alike = (token.isalpha() and behind.isalpha()) or (token.isdigit() and behind.isdigit())
        text += token + " " * source.choice((1, 2) if alike else (0, 1, 1))
    return text
