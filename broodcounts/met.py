"""Numbers of brothers that are met in trees of a wish, and rules that never are."""

from broodcounts.basics import is_name, rules_held
from broodcounts.errors import InvalidKind, UnknownSign
from broodcounts.surroundings import changes
from broodcounts.wishes import check_asked, wished_lots

GREATEST_NUMBER = 12


def numbers_met(book, wish, sign, kind):
    """Return the ascending list of the numbers of brothers of a kind that trees of a wish with a sign have."""
    check_asked(book, wish)
    if sign not in book.signs:
        raise UnknownSign("the sign is none of the book's signs")
    if kind is not None and not is_name(kind):
        raise InvalidKind("the kind is no name and not None")
    closure = book.closure
    wished = wished_lots(closure, wish)
    place = closure.heads.index(sign)
    return [
        number for number, broods in enumerate(_broods_by_number(closure, kind))
        if any([wished[closure.answers[brood][place]] for brood in broods])
    ]


def _broods_by_number(closure, kind):
    """Return for each number up to twelve the broods of lists of trees so many of which are of a kind (None: all)."""
    among = [lot for lot, names in enumerate(closure.members) if kind is None or kind in names]
    beside = [lot for lot in range(len(closure.members)) if lot not in among]
    rows = [_spread(closure, [0], beside)]
    for _ in range(GREATEST_NUMBER):
        counted = {closure.moves[brood][lot]: True for brood in rows[-1] for lot in among}
        rows.append(_spread(closure, list(counted), beside))
    return rows


def _spread(closure, broods, lots):
    """Return all broods to which any trees of these lots lead these broods, themselves, too."""
    found = {brood: True for brood in broods}
    waiting = list(found)
    while waiting:
        row = closure.moves[waiting.pop()]
        for lot in lots:
            if row[lot] not in found:
                found[row[lot]] = True
                waiting.append(row[lot])
    return list(found)


def never_met(book, wish):
    """Return the ascending list of the indexes of rules that make no tree of a wish and none that stands in one."""
    check_asked(book, wish)
    closure = book.closure
    standing = _standing(closure, wish)
    met = {sign: 0 for sign in closure.heads}
    for brood, row in zip(closure.broods, closure.answers):
        rules = rules_held(book.machine, brood)
        for sign, lot in zip(closure.heads, row):
            if standing[lot]:
                met[sign] = met[sign] | rules
    return [index for index, (_, sign, _) in enumerate(book.rules) if not met[sign] >> index & 1]


def _standing(closure, wish):
    """Return for each lot whether some tree of it is of a wish or stands in a tree of it."""
    standing = wished_lots(closure, wish)
    ways = list(changes(closure))
    spread = [_leads(ways, standing, lot) for lot in range(len(standing))]
    while spread != standing:
        standing = spread
        spread = [_leads(ways, standing, lot) for lot in range(len(standing))]
    return standing


def _leads(ways, standing, lot):
    """Return whether a lot is among those that stand, or one more level around leads it there."""
    return standing[lot] or any([standing[way[lot]] for way in ways])
