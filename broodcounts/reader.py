"""Readers: trees that are opened and closed, and what the outermost open one can and must become."""

from broodcounts.errors import NothingOpen, NothingToUndo, UnknownSign
from broodcounts.wishes import check_book, check_wish, wished_lots


class Reader:
    """Reads trees as they are opened and closed.

    An open tree is told by the index of its sign and the index of the brood of
    its brothers that are closed. ``_standing`` holds the open ones, outermost
    first, ``_ended`` the lots of the trees that were closed with none around.
    ``_steps`` holds None for each begin, and for each close the tree that it
    closed and what stood around it before, if anything did.
    """

    def __init__(self, book):
        check_book(book)
        self._book = book
        self._heads = book.signs
        self._standing = []
        self._ended = []
        self._steps = []

    @property
    def lots(self):
        """Return the list of the lots of the trees that were closed with none open around them."""
        return list(self._ended)

    @property
    def signs(self):
        """Return the list of the signs of the open trees, outermost first."""
        return [self._heads[place] for place, _ in self._standing]

    def __len__(self):
        return len(self._standing)

    def begin(self, sign):
        """Open a tree with a sign beneath the one opened last, or a new outermost one."""
        if sign not in self._heads:
            raise UnknownSign("the sign is none of the book's signs")
        self._standing.append((self._heads.index(sign), 0))
        self._steps.append(None)

    def close(self):
        """Close the tree opened last and return its lot."""
        self._check_open()
        closure = self._book.closure
        place, brood = self._standing.pop()
        lot = closure.answers[brood][place]
        around = None
        if len(self._standing) > 0:
            around = self._standing[-1]
            self._standing[-1] = (around[0], closure.moves[around[1]][lot])
        else:
            self._ended.append(closure.members[lot])
        self._steps.append(((place, brood), around))
        return closure.members[lot]

    def undo(self):
        """Take the last begin or close back."""
        if len(self._steps) == 0:
            raise NothingToUndo("there is no call to take back")
        step = self._steps.pop()
        if step is None:
            self._standing.pop()
            return
        closed, around = step
        if around is None:
            self._ended.pop()
        else:
            self._standing[-1] = around
        self._standing.append(closed)

    def can_become(self, wish):
        """Return whether there is a way to go on behind which the outermost open tree is of a wish."""
        check_wish(wish)
        return any(self._ends(wish))

    def must_become(self, wish):
        """Return whether the outermost open tree is of a wish behind each way to go on."""
        check_wish(wish)
        return all(self._ends(wish))

    def copy(self):
        """Return an independent reader in the same state."""
        other = Reader(self._book)
        other._standing = list(self._standing)
        other._ended = list(self._ended)
        other._steps = list(self._steps)
        return other

    def _check_open(self):
        """Raise NothingOpen if no tree is open."""
        if len(self._standing) == 0:
            raise NothingOpen("no tree is open")

    def _ends(self, wish):
        """Return for each lot that the outermost open tree may come to have whether it is of a wish."""
        self._check_open()
        closure = self._book.closure
        prospects = self._book.prospects
        place, brood = self._standing[-1]
        lots = prospects[brood][place]
        for head, before in reversed(self._standing[:-1]):
            around = 0
            for lot, more in enumerate(closure.moves[before]):
                if lots >> lot & 1:
                    around = around | prospects[more][head]
            lots = around
        return [wished for lot, wished in enumerate(wished_lots(closure, wish)) if lots >> lot & 1]
