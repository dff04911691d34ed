"""What the cells of a sheet tell: their values, or a ring for which they have none."""

from rulesheet.needs import all_needs, in_order
from rulesheet.rules import inner_rules, named, outer_first

REST_BY = 1000000000


def looked(places, values, sought, otherwise):
    """What an area's last column has in the first row whose first column has the value sought."""
    # An area goes row by row from the left: its ends are its upper left and lower right corners.
    top, left = places[0]
    bottom, right = places[-1]
    for row in range(top, bottom + 1):
        if values[(row, left)] == sought:
            return values[(row, right)]
    return otherwise


def by_places(rule, inner, known):
    """What a rule with references comes to, by the known values of the places that it names."""
    places = named(rule)
    values = {place: known[place] % REST_BY for place in places}
    if rule[0] == "sum":
        return sum(values.values())
    if rule[0] == "look":
        return looked(places, values, inner[0], inner[1])
    # For a cell, too: its place is the only one.
    return max(values.values())


def comes_to(rule, inner, known):
    """The number of which a rule tells the rest, by the values of the rules within it."""
    form = rule[0]
    if form == "num":
        return rule[1]
    if form == "add":
        return inner[0] + inner[1]
    if form == "sub":
        return inner[0] - inner[1]
    if form == "mul":
        return inner[0] * inner[1]
    if form == "pick":
        return inner[1] if inner[0] != 0 else inner[2]
    return by_places(rule, inner, known)


def told(rule, known):
    """The value that a rule tells by the known values of the places that it needs."""
    done = []
    # From the innermost outward, so that the values of the rules within one stand last in done.
    for one in reversed(outer_first(rule)):
        first = len(done) - len(inner_rules(one))
        inner = done[first:]
        del done[first:]
        done.append(comes_to(one, inner, known) % REST_BY)
    return done[0]


def reckoned(sheet):
    """The values of a sheet, row by row; None where a ring can be come to."""
    known = {}
    for place in in_order(all_needs(sheet)):
        known[place] = told(sheet.rule(place), known)
    return [[known.get((row, column)) for column in range(sheet.wide)] for row in range(sheet.high)]


def ring(sheet):
    """A ring of places, each of which needs the next one; None where there is none."""
    needs = all_needs(sheet)
    free = set(in_order(needs))
    bound = [one for one in needs if one not in free]
    if not bound:
        return None
    way = []
    place = bound[0]
    # What is bound needs something that is bound, so the way can but come back upon itself.
    while place not in way:
        way.append(place)
        place = [one for one in needs[place] if one not in free][0]
    return way[way.index(place):]
