"""Wishes, and the lots of trees that they are asked of."""

from broodcounts.basics import is_name, lot_in, named
from broodcounts.books import Book
from broodcounts.errors import InvalidBook, InvalidLot, InvalidTree, InvalidWish
from broodcounts.trees import is_grown


def check_book(book):
    """Raise InvalidBook unless an object is a book."""
    if not isinstance(book, Book):
        raise InvalidBook("the book is no book")


def is_wish(thing):
    """Return whether an object is a wish."""
    waiting = [thing]
    while waiting:
        part = waiting.pop()
        if isinstance(part, tuple):
            if not _is_joined(part):
                return False
            waiting.extend(part[1:])
        elif not is_name(part):
            return False
    return True


def _is_joined(part):
    """Return whether a tuple begins as a wish and has as many parts."""
    if len(part) == 2:
        return part[0] == "not"
    return len(part) == 3 and part[0] in ("and", "or")


def check_wish(wish):
    """Raise InvalidWish unless an object is a wish."""
    if not is_wish(wish):
        raise InvalidWish("the wish is no wish")


def check_asked(book, wish):
    """Raise InvalidBook unless the book is one, InvalidWish unless the wish is one."""
    check_book(book)
    check_wish(wish)


def meets(lot, wish):
    """Return whether a tree whose kinds have these names is of a wish."""
    if isinstance(wish, str):
        return wish in lot
    if wish[0] == "not":
        return not meets(lot, wish[1])
    if wish[0] == "and":
        return meets(lot, wish[1]) and meets(lot, wish[2])
    return meets(lot, wish[1]) or meets(lot, wish[2])


def is_wished(wish, lot):
    """Return whether a tree of a lot is of a wish."""
    check_wish(wish)
    if not isinstance(lot, tuple) or not all([is_name(kind) for kind in lot]) or not ascends(lot):
        raise InvalidLot("the lot is no tuple of ascending different names")
    return meets(lot, wish)


def ascends(names):
    """Return whether names ascend and are different."""
    return all([one < other for one, other in zip(names, names[1:])])


def wished_lots(closure, wish):
    """Return for each lot of a closure whether trees of it are of a wish."""
    return [meets(lot, wish) for lot in closure.members]


def check_tree_of(book, tree):
    """Raise InvalidTree unless an object is a tree of a book's signs."""
    if not is_grown(book.signs, tree):
        raise InvalidTree("the tree is no tree of the book's signs")


def lot_of(book, tree):
    """Return the lot of a tree."""
    check_book(book)
    check_tree_of(book, tree)
    return named(book.machine, lot_in(book.machine, tree, ()))


def is_of(book, wish, tree):
    """Return whether a tree is of a wish."""
    check_asked(book, wish)
    return meets(lot_of(book, tree), wish)
