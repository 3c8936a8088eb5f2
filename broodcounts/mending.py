"""Least brothers to add to a tree, or to take from it, so that it is of a wish."""

from heapq import heappop, heappush

from broodcounts.basics import brood_index, lot_index
from broodcounts.errors import TooMany
from broodcounts.made import least_tree
from broodcounts.trees import rank
from broodcounts.wishes import check_asked, check_tree_of, wished_lots

MOST_BROTHERS = 12


def _check_mended(book, wish, tree):
    """Raise the error that is listed first if one of these is not what it should be."""
    check_asked(book, wish)
    check_tree_of(book, tree)


def _wished_broods(closure, wish, sign):
    """Return for each brood whether a tree with a sign above it is of a wish."""
    wished = wished_lots(closure, wish)
    place = closure.heads.index(sign)
    return [wished[row[place]] for row in closure.answers]


def least_added(book, wish, tree):
    """Return an ascending list of plain trees of least total size that make a tree one of a wish, or None."""
    _check_mended(book, wish, tree)
    closure = book.closure
    lots = _least_way(closure, brood_index(closure, tree), _wished_broods(closure, wish, tree[0]))
    return None if lots is None else sorted([least_tree(closure, lot) for lot in lots], key=rank)


def _least_way(closure, start, wished):
    """Return the lots of least total size that lead a brood to a wished one, or None."""
    queue = [(0, start, ())]
    best = {start: 0}
    while queue:
        weight, brood, lots = heappop(queue)
        if wished[brood]:
            return lots
        for lot, more in enumerate(closure.moves[brood]):
            cost = weight + closure.sizes[lot]
            if more not in best or cost < best[more]:
                best[more] = cost
                heappush(queue, (cost, more, (*lots, lot)))
    return None


def least_taken(book, wish, tree):
    """Return an ascending list of as few places as possible without whose brothers a tree is of a wish, or None."""
    _check_mended(book, wish, tree)
    if len(tree) - 1 > MOST_BROTHERS:
        raise TooMany("the tree has more than twelve brothers")
    closure = book.closure
    wished = _wished_broods(closure, wish, tree[0])
    least = {0: ()}
    for place, brother in enumerate(tree[1:]):
        least = _left_or_taken(closure, least, place, lot_index(closure, brother))
    found = [taken for brood, taken in least.items() if wished[brood]]
    return list(min(found, key=len)) if found else None


def _left_or_taken(closure, least, place, lot):
    """Return for each brood the fewest places taken that lead to it, with one place more, a brother of a lot."""
    longer = {}
    for brood, taken in least.items():
        for more, places in ((closure.moves[brood][lot], taken), (brood, (*taken, place))):
            if more not in longer or len(places) < len(longer[more]):
                longer[more] = places
    return longer
