"""Rules: what a cell tells by the values of other cells."""

# For each form of a rule: where in its tuple rules stand, and where references.
RULES_AT = {
    "num": (),
    "cell": (),
    "add": (1, 2),
    "sub": (1, 2),
    "mul": (1, 2),
    "pick": (1, 2, 3),
    "sum": (),
    "most": (),
    "look": (1, 4),
}
REFERENCES_AT = {
    "num": (),
    "cell": (1,),
    "add": (),
    "sub": (),
    "mul": (),
    "pick": (),
    "sum": (1, 2),
    "most": (1, 2),
    "look": (2, 3),
}


def area(one, two):
    """The places from one reference or place to another, row by row, each row from the left."""
    rows = range(min(one[0], two[0]), max(one[0], two[0]) + 1)
    columns = range(min(one[1], two[1]), max(one[1], two[1]) + 1)
    return [(row, column) for row in rows for column in columns]


def inner_rules(rule):
    """The rules that stand directly within a rule, from the left."""
    return [rule[at] for at in RULES_AT[rule[0]]]


def references(rule):
    """The references that stand directly in a rule, from the left."""
    return [rule[at] for at in REFERENCES_AT[rule[0]]]


def outer_first(rule):
    """A rule and all that stand within it, each before its inner ones, those from the right.

    Kept in a list of its own, as a rule may be deeper than Python lets functions call each other.
    """
    found = []
    waiting = [rule]
    while waiting:
        one = waiting.pop()
        found.append(one)
        waiting.extend(inner_rules(one))
    return found


def all_references(rule):
    """The references in a rule, however deep they stand."""
    return [reference for one in outer_first(rule) for reference in references(one)]


def deep(rule):
    """How deep a rule is: 1 where no rule stands within it."""
    depth = 0
    level = [rule]
    while level:
        depth += 1
        level = [inner for one in level for inner in inner_rules(one)]
    return depth


def named(rule):
    """The places that a rule names itself, not by the rules within it."""
    told = references(rule)
    if not told:
        return []
    # A single reference tells the area of its own place alone.
    return area(told[0], told[-1])


def needed(rule):
    """The places that a rule needs, each once, rising by row, then column."""
    return sorted({place for one in outer_first(rule) for place in named(one)})


def moved(reference, down, right):
    """A reference whose row and column have grown, each unless it stays."""
    row, column, row_stays, column_stays = reference
    if not row_stays:
        row = row + down
    if not column_stays:
        column = column + right
    return (row, column, row_stays, column_stays)


def shifted(rule, down, right):
    """A rule with each of its references moved, however deep it stands."""
    done = []
    # From the innermost outward, so that what a rule takes in stands last in done, in its order.
    for one in reversed(outer_first(rule)):
        parts = list(one)
        for at in REFERENCES_AT[one[0]]:
            parts[at] = moved(parts[at], down, right)
        for at in reversed(RULES_AT[one[0]]):
            parts[at] = done.pop()
        done.append(tuple(parts))
    return done[0]
