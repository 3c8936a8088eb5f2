"""Wishes with finitely many trees, and how trees of the others grow for ever."""

from math import comb

from broodcounts.basics import brood_beneath, lot_in, named
from broodcounts.errors import TooMany
from broodcounts.made import least_brothers, least_tree
from broodcounts.surroundings import changes, frame_along, holes_in
from broodcounts.trees import is_grown
from broodcounts.wishes import check_asked, meets, wished_lots

MOST_TREES = 300


def is_finite(book, wish):
    """Return whether there are finitely many unlike trees of a wish."""
    check_asked(book, wish)
    return _least_growth(book, book.closure, wish) is None


def growth(book, wish):
    """Return a growth of a wish, None if there are finitely many trees of it."""
    check_asked(book, wish)
    # What leads a brood back to itself must do so for the broods of the document.
    closure = book.full_closure
    found = _least_growth(book, closure, wish)
    if found is None:
        return None
    _, start, path = found
    outer = frame_along(closure, path)
    if start[0] == "deep":
        _, lot, ring = start
        return ("deep", least_tree(closure, lot), frame_along(closure, ring), outer)
    _, brood, at, lot = start
    tree = (closure.heads[at], *least_brothers(closure, brood))
    return ("wide", tree, [least_tree(closure, lot)] * book.machine.step, outer)


def _least_growth(book, closure, wish):
    """Return a (weight, start, path) of least weight such that the path leads from the start to the wish, or None."""
    wished = wished_lots(closure, wish)
    chains = _chains(closure)
    best = None
    for lot, (weight, start) in _starts(closure, chains, book.machine.step).items():
        ends = [(0, ())] if wished[lot] else []
        ends = ends + [chain for (first, last), chain in chains.items() if first == lot and wished[last]]
        for cost, path in ends:
            if best is None or weight + cost < best[0]:
                best = (weight + cost, start, path)
    return best


def _chains(closure):
    """Return for each two lots of which the first leads to the second the (weight, path) of a least surrounding."""
    chains = {}
    for way, (brood, at) in changes(closure).items():
        for lot, above in enumerate(way):
            chains.setdefault((lot, above), (closure.weights[brood] + 1, ((brood, at),)))
    lots = range(len(closure.members))
    for middle in lots:
        for first in lots:
            for last in lots:
                if (first, middle) in chains and (middle, last) in chains:
                    inner, outer = chains[first, middle], chains[middle, last]
                    weight = inner[0] + outer[0]
                    if (first, last) not in chains or weight < chains[first, last][0]:
                        chains[first, last] = (weight, inner[1] + outer[1])
    return chains


def _starts(closure, chains, step):
    """Return for each lot whose trees grow of themselves the least (weight, start).

    A start is ("deep", lot, path) of a ring that leads to the lot again, or
    ("wide", brood, index of a sign, lot) of a brood to which a lot leads back.
    """
    starts = {}
    for lot in range(len(closure.members)):
        if (lot, lot) in chains:
            weight, ring = chains[lot, lot]
            starts[lot] = (closure.sizes[lot] + weight, ("deep", lot, ring))
    for brood, weight in enumerate(closure.weights):
        added = _lot_that_leads_back(closure, brood, step)
        if added is not None:
            cost = weight + 1 + step * closure.sizes[added]
            for at, lot in enumerate(closure.answers[brood]):
                if lot not in starts or cost < starts[lot][0]:
                    starts[lot] = (cost, ("wide", brood, at, added))
    return starts


def _lot_that_leads_back(closure, brood, step):
    """Return the least lot that, added as often as the step, leads a brood back to itself, or None."""
    for lot in range(len(closure.members)):
        at = brood
        for _ in range(step):
            at = closure.moves[at][lot]
        if at == brood:
            return lot
    return None


def is_growth(book, wish, thing):
    """Return whether an object is a growth of a wish."""
    check_asked(book, wish)
    machine = book.machine
    if not isinstance(thing, tuple) or len(thing) != 4:
        return False
    word, tree, more, outer = thing
    if not is_grown(machine.heads, tree) or holes_in(machine.heads, outer) < 1:
        return False
    if word == "deep":
        grows = _grows_deep(machine, tree, more)
    else:
        grows = word == "wide" and _grows_wide(machine, tree, more)
    return grows and meets(named(machine, lot_in(machine, outer, lot_in(machine, tree, ()))), wish)


def _grows_deep(machine, tree, frame):
    """Return whether an object is a frame, not None, that has the lot of a tree when it is filled with it."""
    if frame is None or holes_in(machine.heads, frame) < 1:
        return False
    lot = lot_in(machine, tree, ())
    return lot_in(machine, frame, lot) == lot


def _grows_wide(machine, tree, brothers):
    """Return whether an object is a list of brothers that lead the brood of a tree's brothers back to itself."""
    if not isinstance(brothers, list) or len(brothers) == 0:
        return False
    if not all([is_grown(machine.heads, brother) for brother in brothers]):
        return False
    return brood_beneath(machine, tree, ()) == brood_beneath(machine, (*tree, *brothers), ())


def all_trees(book, wish):
    """Return the ascending list of all plain trees of a wish."""
    check_asked(book, wish)
    closure = book.closure
    if _least_growth(book, closure, wish) is not None:
        raise TooMany("there is no end of trees of the wish")
    made = {}
    found = []
    for lot, wished in enumerate(wished_lots(closure, wish)):
        if wished:
            found = found + _trees_of(closure, lot, made)
            _check_few(len(found))
    return [tree for _, tree in sorted(found)]


def _check_few(many):
    """Raise TooMany if there are more than three hundred trees."""
    # A lot has at least as many trees as each lot beneath it, so this may be asked of all of them.
    if many > MOST_TREES:
        raise TooMany("there are more than three hundred trees of the wish")


def _trees_of(closure, lot, made):
    """Return all plain trees of a lot that has finitely many, each with its size in front; made keeps them."""
    if lot not in made:
        found = []
        for brood, row in _rows_above(closure, lot):
            rows = _brothers_of(closure, row, made)
            signs = [sign for sign, told in zip(closure.heads, closure.answers[brood]) if told == lot]
            _check_few(len(found) + len(signs) * len(rows))
            for brothers in rows:
                size = 1 + sum([part for part, _ in brothers])
                found = found + [(size, (sign, *[tree for _, tree in brothers])) for sign in signs]
        made[lot] = found
    return made[lot]


def _brothers_of(closure, row, made):
    """Return the ascending lists of trees, each with its size in front, whose lots are those of a row."""
    found = [()]
    for lot in sorted(set(row)):
        trees = _trees_of(closure, lot, made)
        times = row.count(lot)
        _check_few(len(found) * comb(len(trees) + times - 1, times))
        found = [(*before, *more) for before in found for more in _picked(trees, times)]
    return [sorted(brothers) for brothers in found]


def _picked(trees, times):
    """Return all ways to pick so many trees, each as often as one likes."""
    if times == 0:
        return [()]
    return [(trees[at], *more) for at in range(len(trees)) for more in _picked(trees[at:], times - 1)]


def _rows_above(closure, lot):
    """Return the pairs (brood, ascending row of lots) of all rows above which a sign has a lot."""
    leading = _leading_broods(closure, lot)
    found = []
    waiting = [(0, 0, ())]
    while waiting:
        first, brood, row = waiting.pop()
        if first == len(closure.members):
            found.append((brood, row))
            _check_few(len(found))
            continue
        if brood in leading[first + 1]:
            waiting.append((first + 1, brood, row))
        if closure.moves[brood][first] in leading[first]:
            waiting.append((first, closure.moves[brood][first], (*row, first)))
    return found


def _leading_broods(closure, lot):
    """Return for each lot, and for none, the broods that it and later ones lead to one above which a sign has a lot."""
    found = {brood: True for brood, answer in enumerate(closure.answers) if lot in answer}
    leading = [found]
    for first in range(len(closure.members) - 1, -1, -1):
        before = {}
        for brood, row in enumerate(closure.moves):
            before.setdefault(row[first], []).append(brood)
        found = {brood: True for brood in found}
        waiting = list(found)
        while waiting:
            last = waiting.pop()
            for brood in before.get(last, []):
                if brood not in found:
                    found[brood] = True
                    waiting.append(brood)
        leading = [found] + leading
    return leading
