"""Which cells of a sheet need which, and in which order they can be told."""

from rulesheet.rules import needed


def all_needs(sheet):
    """For each place of a sheet the places that it needs."""
    return {place: needed(sheet.rule(place)) for place in sheet.places()}


def all_needers(needs):
    """For each place the places that need it."""
    needers = {place: [] for place in needs}
    for place in needs:
        for other in needs[place]:
            needers[other].append(place)
    return needers


def in_order(needs):
    """Places, each behind all that it needs; without those from which a ring can be come to.

    Kept in lists, as more cells may need each other than Python lets functions call each other.
    """
    needers = all_needers(needs)
    missing = {place: len(needs[place]) for place in needs}
    ready = [place for place in needs if missing[place] == 0]
    order = []
    while ready:
        one = ready.pop()
        order.append(one)
        for needer in needers[one]:
            missing[needer] -= 1
            if missing[needer] == 0:
                ready.append(needer)
    return order
