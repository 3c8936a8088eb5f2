"""Documents: trees that are edited, and whose edits are taken back."""

from broodcounts.basics import is_number, lot_above, lot_in, named
from broodcounts.errors import InvalidNumber, InvalidPath, NothingToUndo, UnknownSign
from broodcounts.wishes import check_book, check_wish, meets


class Document:
    """A tree that is edited.

    ``_steps`` holds for each call that stands what takes it back: the path of
    a tree, which of its parts (its sign and its brothers) are to go, by the
    first one and the one behind the last, and the parts to put there.
    """

    def __init__(self, book, sign):
        check_book(book)
        self._book = book
        self._check_sign(sign)
        self._tree = (sign,)
        self._steps = []

    @property
    def tree(self):
        """Return the tree, brothers in the order in which they stand."""
        return self._tree

    def __len__(self):
        return len(self._steps)

    def add(self, path, sign):
        """Put a tree of a sign alone behind the brothers of the tree at a path."""
        part = self._part_at(path)
        self._check_sign(sign)
        self._change(path, len(part), len(part), ((sign,),))

    def remove(self, path):
        """Take the tree at a path away."""
        self._part_at(path)
        if len(path) == 0:
            raise InvalidPath("the whole tree is not taken away")
        at = path[-1] + 1
        self._change(path[:-1], at, at + 1, ())

    def rename(self, path, sign):
        """Give the tree at a path another sign."""
        self._part_at(path)
        self._check_sign(sign)
        self._change(path, 0, 1, (sign,))

    def undo(self, *, steps=1):
        """Take the last so many calls of add, remove and rename back."""
        if not is_number(steps, 1, None):
            raise InvalidNumber("the steps are no integer from 1 on")
        if steps > len(self._steps):
            raise NothingToUndo("there are fewer calls to take back")
        for _ in range(steps):
            path, start, stop, parts = self._steps.pop()
            self._tree = _spliced(self._tree, path, start, stop, parts)

    def lot(self, path):
        """Return the lot of the tree at a path."""
        part = self._part_at(path)
        machine = self._book.machine
        return named(machine, lot_in(machine, part, ()))

    def failing(self, wish):
        """Return the ascending list of the paths at which a tree stands that is not of a wish."""
        check_wish(wish)
        _, paths = _failing(self._book.machine, wish, self._tree, ())
        return paths

    def copy(self):
        """Return an independent document in the same state."""
        other = Document(self._book, self._tree[0])
        other._tree = self._tree
        other._steps = list(self._steps)
        return other

    def _check_sign(self, sign):
        """Raise UnknownSign unless an object is one of the book's signs."""
        if sign not in self._book.signs:
            raise UnknownSign("the sign is none of the book's signs")

    def _part_at(self, path):
        """Return the tree at a path; raise InvalidPath if there is none."""
        if not isinstance(path, tuple):
            raise InvalidPath("the path is no tuple of places")
        part = self._tree
        for place in path:
            if not is_number(place, 0, len(part) - 2):
                raise InvalidPath("there is no tree at the path")
            part = part[place + 1]
        return part

    def _change(self, path, start, stop, parts):
        """Put parts in the place of others of the tree at a path, and keep what takes this back."""
        before = self._part_at(path)[start:stop]
        self._tree = _spliced(self._tree, path, start, stop, parts)
        self._steps.append((path, start, start + len(parts), before))


def _spliced(tree, path, start, stop, parts):
    """Return a tree with parts in the place of those from start to stop of the tree at a path."""
    if len(path) == 0:
        return (*tree[:start], *parts, *tree[stop:])
    at = path[0] + 1
    return (*tree[:at], _spliced(tree[at], path[1:], start, stop, parts), *tree[at + 1:])


def _failing(machine, wish, part, path):
    """Return the lot of a tree at a path and the ascending paths in it at which trees are not of a wish."""
    lots = []
    paths = []
    for place, brother in enumerate(part[1:]):
        lot, failing = _failing(machine, wish, brother, (*path, place))
        lots.append((lot, 1))
        paths.extend(failing)
    lot = lot_above(machine, part[0], lots)
    return (lot, paths if meets(named(machine, lot), wish) else [path] + paths)
