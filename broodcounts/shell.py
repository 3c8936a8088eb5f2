"""The shell: lines that put books under names and ask them."""

from broodcounts.basics import is_name
from broodcounts.beside import holds, parting_size
from broodcounts.counting import GREATEST_COUNTED, count
from broodcounts.endless import is_finite
from broodcounts.errors import InvalidLine, InvalidName, InvalidNumber, InvalidTree, InvalidWish, UnknownName
from broodcounts.made import least_size
from broodcounts.needless import needless_asks, needless_rules
from broodcounts.surroundings import are_kin
from broodcounts.tables import lots
from broodcounts.texts import parse_book, read_tree, read_wish
from broodcounts.wishes import is_of, lot_of


def _yes_or_no(told):
    """Return the answer to a question."""
    return "yes" if told else "no"


def _lot_text(lot):
    """Return the kinds of a lot as one word."""
    return "+".join(lot) if len(lot) > 0 else "-"


def _of(book, wish, tree):
    """Answer whether a tree is of a wish."""
    return _yes_or_no(is_of(book, wish, tree))


def _lot(book, tree):
    """Answer with the lot of a tree."""
    return _lot_text(lot_of(book, tree))


def _lots(book):
    """Answer with the lots of a book."""
    return " ".join([_lot_text(lot) for lot in lots(book)])


def _made(book, wish):
    """Answer with the least size of a tree of a wish."""
    least = least_size(book, wish)
    return "no" if least is None else str(least)


def _end(book, wish):
    """Answer whether there are finitely many trees of a wish."""
    return _yes_or_no(is_finite(book, wish))


def _count(book, wish, size):
    """Answer with the number of plain trees of a wish that have a size."""
    return str(count(book, wish, size))


def _holds(one, wish, other, other_wish):
    """Answer whether each tree of a wish by the other book is of the wish by the first one."""
    return _yes_or_no(holds(one, wish, other, other_wish))


def _alike(one, wish, other, other_wish):
    """Answer whether both wishes have the same trees, or with the least size of a tree that parts them."""
    least = parting_size(one, wish, other, other_wish)
    return "yes" if least is None else str(least)


def _kin(book, wish, one, other):
    """Answer whether no surrounding parts two trees for a wish."""
    return _yes_or_no(are_kin(book, wish, one, other))


def _needless(book, wish):
    """Answer with the rules and the asks that a wish does not need."""
    rules = [str(index) for index in needless_rules(book, wish)]
    words = rules + [f"{index}.{ask}" for index, ask in needless_asks(book, wish)]
    return " ".join(words) if len(words) > 0 else "none"


# What stands behind each first word, and what answers it.
FORMS = {
    "book": ("NAME", "TEXT"),
    "of": ("BOOK", "WISH", "TREE"),
    "lot": ("BOOK", "TREE"),
    "lots": ("BOOK",),
    "made": ("BOOK", "WISH"),
    "end": ("BOOK", "WISH"),
    "count": ("BOOK", "WISH", "SIZE"),
    "holds": ("BOOK", "WISH", "BOOK", "WISH"),
    "alike": ("BOOK", "WISH", "BOOK", "WISH"),
    "kin": ("BOOK", "WISH", "TREE", "TREE"),
    "needless": ("BOOK", "WISH"),
    "names": (),
}
ANSWERS = {
    "of": _of, "lot": _lot, "lots": _lots, "made": _made, "end": _end, "count": _count, "holds": _holds,
    "alike": _alike, "kin": _kin, "needless": _needless,
}
# What stands for a space and for a line feed within a word.
SPACE = "_"
LINE_FEED = "/"


def _text_of(word):
    """Return the text that is written as one word."""
    return word.replace(SPACE, " ").replace(LINE_FEED, "\n")


class Shell:
    """Books by name, and lines that put and ask them."""

    def __init__(self):
        self._books = {}

    def run(self, line):
        """Execute a line and return the answer."""
        words = line.split(" ") if isinstance(line, str) else [""]
        first = words[0]
        if first not in FORMS or len(words) != 1 + len(FORMS[first]) or "" in words or "\n" in line:
            raise InvalidLine("the line has no such first word, or not as many words")
        if first == "names":
            return " ".join(sorted(self._books)) if len(self._books) > 0 else "-"
        if first == "book":
            return self._put(words[1], words[2])
        answer = ANSWERS[first]
        told = self._told(FORMS[first], words[1:])
        return answer(*told)

    def _put(self, name, word):
        """Put the book that a word tells under a name."""
        if not is_name(name):
            raise InvalidName("the name of the book is no name")
        self._books[name] = parse_book(_text_of(word))
        return "ok"

    def _told(self, form, words):
        """Return what words tell, by what is to stand in their places; what is wrong is told in this order."""
        told = list(words)
        for part in ("BOOK", "WISH", "TREE", "SIZE"):
            for at, asked in enumerate(form):
                if asked == part:
                    # The first word of each of these lines names the book whose signs its trees have.
                    told[at] = self._read(part, words[at], told[0])
        return told

    def _read(self, part, word, book):
        """Return the book, wish, tree of a book or size that a word tells."""
        if part == "BOOK":
            return self._book_of(word)
        if part == "WISH":
            return _wish_of(word)
        return _tree_of(book, word) if part == "TREE" else _size_of(word)

    def _book_of(self, word):
        """Return the book with a name."""
        if word not in self._books:
            raise UnknownName("no book has this name")
        return self._books[word]


def _wish_of(word):
    """Return the wish that a word tells."""
    wish = read_wish(_text_of(word))
    if wish is None:
        raise InvalidWish("the word is no text of a wish")
    return wish


def _tree_of(book, word):
    """Return the tree of a book's signs that a word tells."""
    tree = read_tree(book.signs, word)
    if tree is None:
        raise InvalidTree("the word is no text of a tree of the book's signs")
    return tree


def _size_of(word):
    """Return the size that a word tells."""
    sizes = {str(size): size for size in range(1, GREATEST_COUNTED + 1)}
    if word not in sizes:
        raise InvalidNumber("the size is no integer from 1 to 20")
    return sizes[word]
