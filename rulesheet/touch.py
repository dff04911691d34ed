"""Which cells another rule at a place can change."""

from rulesheet.errors import OffSheet
from rulesheet.needs import all_needers, all_needs


def touched(sheet, place):
    """The places that a place touches, rising by row, then column."""
    if place not in sheet.places():
        raise OffSheet("a place lies off the sheet")
    needers = all_needers(all_needs(sheet))
    found = {place}
    waiting = [place]
    while waiting:
        one = waiting.pop()
        for needer in needers[one]:
            if needer not in found:
                found.add(needer)
                waiting.append(needer)
    return sorted(found)
