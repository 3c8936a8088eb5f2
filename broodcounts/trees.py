"""Signs and trees, and the plain tree that stands for all alike ones."""

from broodcounts.basics import is_name, is_number
from broodcounts.errors import InvalidNumber, InvalidSigns, InvalidTree, TooMany

MOST_SIGNS = 8
GREATEST_SIZE = 12
MOST_TREES = 1000


def is_signs(thing):
    """Return whether an object is signs."""
    if not isinstance(thing, list) or not 1 <= len(thing) <= MOST_SIGNS:
        return False
    return all([is_name(sign) for sign in thing]) and len(set(thing)) == len(thing)


def check_signs(signs):
    """Raise InvalidSigns unless an object is signs."""
    if not is_signs(signs):
        raise InvalidSigns("the signs are no list of one to eight different names")


def is_tree(signs, thing):
    """Return whether an object is a tree of signs."""
    check_signs(signs)
    return is_grown(signs, thing)


def is_grown(signs, thing):
    """Return whether an object is a tree of what surely are signs."""
    waiting = [thing]
    while waiting:
        part = waiting.pop()
        if not isinstance(part, tuple) or len(part) == 0:
            return False
        if part[0] not in signs:
            return False
        waiting.extend(part[1:])
    return True


def check_tree(signs, tree):
    """Raise InvalidSigns unless the signs are signs, InvalidTree unless the tree is one of them."""
    if not is_tree(signs, tree):
        raise InvalidTree("the tree is no tree of the signs")


def standing_in(tree):
    """Return the list of all trees that stand in a tree, itself, too, as often as they stand."""
    found = []
    waiting = [tree]
    while waiting:
        part = waiting.pop()
        found.append(part)
        waiting.extend(part[1:])
    return found


def rank(tree):
    """Return the key by which plain trees ascend."""
    return (len(standing_in(tree)), tree)


def made_plain(tree):
    """Return the plain tree that is alike to a tree."""
    brothers = [made_plain(brother) for brother in tree[1:]]
    brothers = sorted(brothers, key=rank)
    return (tree[0], *brothers)


def plain(signs, tree):
    """Return the plain tree that is alike to a tree."""
    check_tree(signs, tree)
    return made_plain(tree)


def size(signs, tree):
    """Return the number of places of signs in a tree."""
    check_tree(signs, tree)
    return len(standing_in(tree))


def depth(signs, tree):
    """Return 1, or one more than the greatest depth of a tree's brothers."""
    check_tree(signs, tree)
    levels = 0
    level = [tree]
    while level:
        levels += 1
        level = [brother for part in level for brother in part[1:]]
    return levels


def parts(signs, tree):
    """Return the ascending list of the different plain trees of those that stand in a tree."""
    check_tree(signs, tree)
    ascending = sorted(standing_in(made_plain(tree)), key=rank)
    different = ascending[:1]
    for part in ascending:
        if part != different[-1]:
            different.append(part)
    return different


def alike(signs, one, other):
    """Return whether two trees are alike."""
    check_tree(signs, one)
    check_tree(signs, other)
    return made_plain(one) == made_plain(other)


def numbers_of_trees(many, most):
    """Return the list of how many plain trees of so many signs have 0, 1, 2 .. places, up to the most."""
    trees = [0]
    rows = [1]
    shares = [0]
    for places in range(1, most + 1):
        trees.append(many * rows[places - 1])
        # What brothers of each size add to rows, counted by their places (Euler's transform): so none is made.
        shares.append(sum([part * trees[part] for part in range(1, places + 1) if places % part == 0]))
        rows.append(sum([shares[part] * rows[places - part] for part in range(1, places + 1)]) // places)
    return trees


def has_few(signs, places):
    """Return whether at most a thousand plain trees have so many places."""
    return numbers_of_trees(len(signs), places)[places] <= MOST_TREES


def check_few(signs, places):
    """Raise TooMany if more than a thousand plain trees have so many places."""
    if not has_few(signs, places):
        raise TooMany("there are more than a thousand trees of this size")


def trees_of_size(signs, size):
    """Return the ascending list of all plain trees of a size."""
    check_signs(signs)
    if not is_number(size, 1, GREATEST_SIZE):
        raise InvalidNumber("the size is no integer from 1 to 12")
    check_few(signs, size)
    return [tree for places, tree, _ in numbered_trees(signs, size) if places == size]


def numbered_trees(signs, most):
    """Return all plain trees of at most so many places, ascending, as (places, tree, its brothers' indexes here)."""
    found = []
    rows = [[((), ())]]
    for places in range(1, most + 1):
        brothers = sorted(rows[places - 1])
        found = found + [(places, (sign, *row), indexes) for sign in sorted(signs) for row, indexes in brothers]
        if places < most:
            rows.append(_longer_rows(rows, found))
    return found


def _longer_rows(rows, found):
    """Return the ascending rows, each with its indexes, that have one place more than the last ones of the rows."""
    many = len(rows)
    return [
        ((*row, tree), (*indexes, index))
        for index, (places, tree, _) in enumerate(found)
        for row, indexes in rows[many - places]
        if not row or indexes[-1] <= index
    ]
