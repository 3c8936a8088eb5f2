"""How many plain trees of a wish have a size, and their places in the list of them."""

from broodcounts.basics import is_number
from broodcounts.errors import InvalidNumber, InvalidTree
from broodcounts.trees import GREATEST_SIZE, check_few, has_few, made_plain, numbered_trees, standing_in
from broodcounts.wishes import check_asked, is_of, wished_lots

GREATEST_COUNTED = 20


def count(book, wish, size):
    """Return how many plain trees of a wish have a size."""
    check_asked(book, wish)
    if not is_number(size, 1, GREATEST_COUNTED):
        raise InvalidNumber("the size is no integer from 1 to 20")
    return _counted(book.closure, wish, size)


def _counted(closure, wish, size):
    """Return how many plain trees of a wish have a size."""
    wished = wished_lots(closure, wish)
    rows = _rows_of_places(closure, size - 1)
    return sum([many * sum([1 for lot in closure.answers[brood] if wished[lot]]) for brood, many in rows.items()])


def _rows_of_places(closure, places):
    """Return for each brood how many ascending rows of plain trees with so many places together have it."""
    rows = [{0: 1}]
    trees = [{}]
    shares = [[]]
    jumps = _jumps(closure, places)
    for now in range(1, places + 1):
        trees.append(_trees_above(closure, rows[now - 1]))
        # As for the numbers of all trees (Euler's transform), but what is multiplied leads broods to broods.
        shares.append([
            (jumps[lot][now // part], part * many)
            for part in range(1, now + 1) if now % part == 0 for lot, many in trees[part].items()
        ])
        total = {}
        for part in range(1, now + 1):
            for jump, factor in shares[part]:
                for brood, many in rows[now - part].items():
                    total[jump[brood]] = total.get(jump[brood], 0) + factor * many
        rows.append({brood: many // now for brood, many in total.items()})
    return rows[places]


def _trees_above(closure, rows):
    """Return for each lot how many trees have one of these rows as brothers."""
    found = {}
    for brood, many in rows.items():
        for lot in closure.answers[brood]:
            found[lot] = found.get(lot, 0) + many
    return found


def _jumps(closure, places):
    """Return for each lot and number of trees of it the list of the broods that so many of them lead to."""
    jumps = []
    for lot, size in enumerate(closure.sizes):
        rows = [list(range(len(closure.moves)))]
        for _ in range(places // size):
            rows.append([closure.moves[brood][lot] for brood in rows[-1]])
        jumps.append(rows)
    return jumps


def listed(book, wish, size):
    """Return the ascending list of the plain trees of a wish that have a size."""
    check_asked(book, wish)
    _check_size(size)
    check_few(book.signs, size)
    return _listed(book, wish, size)


def _check_size(size):
    """Raise InvalidNumber unless a size is an integer from 1 to 12."""
    if not is_number(size, 1, GREATEST_SIZE):
        raise InvalidNumber("the size is no integer from 1 to 12")


def _listed(book, wish, size):
    """Return the ascending list of the plain trees of a wish that have a size, of which there are few."""
    closure = book.closure
    wished = wished_lots(closure, wish)
    places = {sign: place for place, sign in enumerate(closure.heads)}
    lots = []
    found = []
    for told, tree, row in numbered_trees(closure.heads, size):
        brood = 0
        for at in row:
            brood = closure.moves[brood][lots[at]]
        lot = closure.answers[brood][places[tree[0]]]
        lots.append(lot)
        if told == size and wished[lot]:
            found.append(tree)
    return found


def tree_at(book, wish, size, index):
    """Return the tree with an index in the ascending list of the plain trees of a wish that have a size."""
    check_asked(book, wish)
    _check_size(size)
    # An index that is not there is told first, even where there are too many trees to list.
    few = has_few(book.signs, size)
    trees = _listed(book, wish, size) if few else []
    many = len(trees) if few else _counted(book.closure, wish, size)
    if not is_number(index, 0, many - 1):
        raise InvalidNumber("the index is none of the list")
    check_few(book.signs, size)
    return trees[index]


def place_of(book, wish, tree):
    """Return the index of the plain tree alike to a tree in the list of its size."""
    if not is_of(book, wish, tree):
        raise InvalidTree("the tree is not of the wish")
    size = len(standing_in(tree))
    if size > GREATEST_SIZE:
        raise InvalidTree("the tree has more than twelve places")
    check_few(book.signs, size)
    return _listed(book, wish, size).index(made_plain(tree))
