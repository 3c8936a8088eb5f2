"""Wishes by one book beside wishes by another one."""

from broodcounts.basics import Machine, closed, short_loops
from broodcounts.errors import InvalidMatch
from broodcounts.made import first_lot, least_tree
from broodcounts.wishes import check_asked, meets


def holds(one, wish, other, other_wish):
    """Return whether each tree of a wish by the other book is of the wish by the first one."""
    _check_both(one, wish, other, other_wish)
    closure = _joined(one, other)
    return all([first or not second for first, second in _met_by_both(closure, wish, other_wish)])


def parting(one, wish, other, other_wish):
    """Return a plain tree of least size that is of just one of both wishes, or None."""
    closure, lot = _first_parted(one, wish, other, other_wish)
    return None if lot is None else least_tree(closure, lot)


def parting_size(one, wish, other, other_wish):
    """Return the least size of a tree that is of just one of both wishes, or None; no tree is made."""
    closure, lot = _first_parted(one, wish, other, other_wish)
    return None if lot is None else closure.sizes[lot]


def are_alike(one, wish, other, other_wish):
    """Return whether no tree is of just one of both wishes."""
    _, lot = _first_parted(one, wish, other, other_wish)
    return lot is None


def _first_parted(one, wish, other, other_wish):
    """Return the closure of both books and in it the first lot that is of just one of both wishes, or None."""
    _check_both(one, wish, other, other_wish)
    closure = _joined(one, other)
    return (closure, first_lot(_parted(closure, wish, other_wish)))


def _check_both(one, wish, other, other_wish):
    """Raise the error that is listed first if one of these is not what it should be."""
    check_asked(one, wish)
    check_asked(other, other_wish)
    if sorted(one.signs) != sorted(other.signs):
        raise InvalidMatch("the signs of the books are not the same")


def _joined(one, other):
    """Return the closure of both books together; their kinds are kept apart by 0 or 1 in front."""
    kinds = [(0, kind) for kind in one.kinds] + [(1, kind) for kind in other.kinds]
    machine = Machine(one.signs, kinds, _marked(one.rules, 0) + _marked(other.rules, 1))
    return closed(machine, short_loops(machine))


def _marked(rules, mark):
    """Return rules with a mark at each kind."""
    return [((mark, kind), sign, tuple([_marked_ask(ask, mark) for ask in asks])) for kind, sign, asks in rules]


def _marked_ask(ask, mark):
    """Return an ask with a mark at its kind, if it has one."""
    return ask if ask[0] is None else ((mark, ask[0]), *ask[1:])


def _met_by_both(closure, wish, other_wish):
    """Return for each lot whether it is of the wish by the first book, and of the other one by the other book."""
    return [(meets(_by_book(lot, 0), wish), meets(_by_book(lot, 1), other_wish)) for lot in closure.members]


def _by_book(lot, mark):
    """Return the names of the kinds in a lot that have a mark."""
    return tuple([kind for book, kind in lot if book == mark])


def _parted(closure, wish, other_wish):
    """Return for each lot whether it is of just one of both wishes."""
    return [first != second for first, second in _met_by_both(closure, wish, other_wish)]
