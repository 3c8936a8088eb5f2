"""Tables: all lots of a book, each with a tree, and the broods that show that there are no more."""

from broodcounts.basics import full_loops, lot_in, lot_made, named, rules_held, stepped, steps_of
from broodcounts.broods import is_brood, is_lot, states_in, told_brood
from broodcounts.made import least_tree
from broodcounts.trees import is_grown
from broodcounts.wishes import check_book


def lots(book):
    """Return the ascending list of the lots of a book."""
    check_book(book)
    return sorted(book.closure.members)


def table(book):
    """Return a table of a book, with a least tree for each lot."""
    check_book(book)
    closure = book.full_closure
    rows = [(lot, least_tree(closure, index)) for index, lot in enumerate(closure.members)]
    return (sorted(rows), [told_brood(book.machine, brood) for brood in closure.broods])


def is_table(book, thing):
    """Return whether an object is a table of a book."""
    check_book(book)
    if not isinstance(thing, tuple) or len(thing) != 2:
        return False
    rows, broods = thing
    if not _are_rows(book, rows) or not _are_broods(book.machine, broods):
        return False
    kinds = book.kinds
    told = [tuple([kinds.index(kind) for kind in lot]) for lot, _ in rows]
    return _are_closed(book.machine, told, [states_in(book.machine, brood) for brood in broods])


def _are_rows(book, rows):
    """Return whether an object is a list of pairs of different lots and a tree of each."""
    if not isinstance(rows, list):
        return False
    kinds = book.kinds
    if not all([isinstance(row, tuple) and len(row) == 2 and is_lot(kinds, row[0]) for row in rows]):
        return False
    # Different lots first: then there are only a few trees left to look at.
    if len(set([lot for lot, _ in rows])) < len(rows):
        return False
    return all([_is_of_lot(book, lot, tree) for lot, tree in rows])


def _is_of_lot(book, lot, tree):
    """Return whether an object is a tree of a lot."""
    return is_grown(book.signs, tree) and named(book.machine, lot_in(book.machine, tree, ())) == lot


def _are_broods(machine, broods):
    """Return whether an object is a list of different broods."""
    if not isinstance(broods, list) or not all([is_brood(machine, brood) for brood in broods]):
        return False
    return len(set(broods)) == len(broods)


def _are_closed(machine, told, broods):
    """Return whether all that grows from the empty brood by these lots is among these lots and broods."""
    steps = [steps_of(full_loops(machine), lot) for lot in told]
    there = {brood: True for brood in broods}
    if (0,) * len(machine.fitted) not in there:
        return False
    for brood in broods:
        rules = rules_held(machine, brood)
        if not all([lot_made(machine, sign, rules) in told for sign in machine.heads]):
            return False
        if not all([stepped(brood, rows) in there for rows in steps]):
            return False
    return True
