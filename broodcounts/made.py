"""Wishes that are made, and the least trees that make them."""

from broodcounts.wishes import check_asked, wished_lots


def is_made(book, wish):
    """Return whether there is a tree of a wish."""
    check_asked(book, wish)
    return any(wished_lots(book.closure, wish))


def least_size(book, wish):
    """Return the least size of a tree of a wish, None if there is none."""
    check_asked(book, wish)
    lot = first_lot(wished_lots(book.closure, wish))
    return None if lot is None else book.closure.sizes[lot]


def least(book, wish):
    """Return a plain tree of a wish of the least size, None if there is none."""
    check_asked(book, wish)
    lot = first_lot(wished_lots(book.closure, wish))
    return None if lot is None else least_tree(book.closure, lot)


def first_lot(wished):
    """Return the index of the first lot that is wished, or None: lots ascend by the size of their least trees."""
    return wished.index(True) if True in wished else None


def least_tree(closure, lot):
    """Return a plain tree of least size of a lot."""
    return _sized_tree(closure, lot, {})[1]


def least_brothers(closure, brood):
    """Return the ascending list of plain trees of least total size whose lots have a brood."""
    return [tree for _, tree in _sized_brothers(closure, brood, {})]


def _sized_tree(closure, lot, made):
    """Return the size of a lot's least tree and the tree; made holds those of the lots met before."""
    if lot not in made:
        sign, brood = closure.makers[lot]
        brothers = [tree for _, tree in _sized_brothers(closure, brood, made)]
        made[lot] = (closure.sizes[lot], (sign, *brothers))
    return made[lot]


def _sized_brothers(closure, brood, made):
    """Return the ascending list of such pairs for a list of lots that has a brood with the least total size."""
    brothers = []
    while brood > 0:
        brood, lot = closure.sources[brood]
        brothers.append(_sized_tree(closure, lot, made))
    return sorted(brothers)
