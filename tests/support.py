"""What several test files need: objects of every kind, and checks of calls."""

import itertools
import unittest

from broodcounts.books import Book
from broodcounts.document import Document
from broodcounts.errors import BroodError, ParseError
from broodcounts.reader import Reader
from broodcounts.shell import Shell

SIGNS = ["a", "b", "f"]
A = ("a",)
B = ("b",)
NO_BROTHERS = (None, 0, 0, 1, 0)
LEAVES = [("leaf", "a", (NO_BROTHERS,)), ("leaf", "b", (NO_BROTHERS,))]
RULES = LEAVES + [
    ("even", "f", (("leaf", 0, None, 2, 0), ("even", 0, 1, 1, 0))),
    ("wide", "f", (("leaf", 3, None, 1, 0),)),
]


BOOK = Book(SIGNS, RULES)
# Books near the bounds: three kinds, eight lots, 684 broods, and eight signs or two.
MANY_SIGNS = Book(list("abcdefgh"), [
    ("z", "f", (("y", 1, None, 3, 2),)), ("y", "g", ((None, 0, 1, 1, 0), ("y", 1, 2, 3, 0))),
    ("x", "g", (("x", 2, None, 1, 0),)), ("x", "f", (("x", 1, 2, 1, 0), (None, 1, 1, 1, 0))),
    ("z", "f", (("z", 1, None, 1, 0),)), ("y", "e", (("z", 0, 0, 1, 0),)), ("z", "b", (("z", 1, 1, 1, 0),)),
    ("z", "g", (("x", 2, None, 3, 1),)), ("x", "c", (("x", 0, 2, 3, 0),)), ("y", "f", (("z", 0, 2, 1, 0),)),
])
TWO_SIGNS = Book(["a", "b"], [
    ("x", "a", (("z", 2, 2, 3, 2),)), ("x", "a", (("x", 0, None, 3, 0),)), ("x", "b", ()),
    ("z", "a", ((None, 1, 1, 1, 0),)), ("y", "b", ()), ("y", "a", (("y", 1, None, 1, 0),)), ("x", "b", ()),
    ("x", "a", (("x", 2, None, 1, 0),)), ("z", "b", ()), ("y", "b", ((None, 1, None, 3, 2), ("y", 2, 2, 1, 0))),
])
NO_WISHES = [
    "", "abcdefghi", "A", "a b", "a1", None, True, False, 0, 1, [], ["a"], {}, (), ("a",), ("a", "b"), ("not",),
    ("not", "a", "b"), ("and", "a"), ("and",), ("or", "a", "b", "c"), ("or", "a"), ("a", "b", "c"), ("nor", "a", "b"),
    ("NOT", "a"), ("not", "A"), ("not", ""), ("not", ()), ("not", None), ("not", ["a"]), ("not", ("not",)),
    ["not", "a"], ["and", "a", "b"], ("and", "a", ["not", "b"]), ("and", "a", None), ("or", "abcdefghi", "a"),
    ("or", "a", ("and", "b", ("not", "C"))), ("not", ("not", ("not", ("and", "a", 1)))), (("not",), "a"),
    (["and"], "a", "b"), (None, "a"), (True, "a", "b"), ("not", ("a",)), (("not", "a"), "b"),
]


def nested(levels, wrap):
    """An object that is wrapped so many times."""
    thing = None
    for _ in range(levels):
        thing = wrap(thing)
    return thing


def chain(levels, leaf="a"):
    """A tree that is so many levels deep, with one brother at each level."""
    tree = (leaf,)
    for _ in range(levels - 1):
        tree = ("f", tree)
    return tree


def read(reader, tree):
    """Begin and close all of a tree; return what the last close tells."""
    reader.begin(tree[0])
    for brother in tree[1:]:
        read(reader, brother)
    return reader.close()


def odd_objects():
    """Objects of every kind that are no signs, trees, asks, rules or lists of rules."""
    return [
        None, True, False, 0, 1, -1, 13, 10 ** 40 - 1, -(10 ** 40 - 1),
        "", "a", "A", "abcdefgh", "abcdefghi", "a b", "tab\tand\nline", "~",
        (), (None,), (True,), (1, 2, 3), ((),), ([],), ({},), ("z",), ("A",), (["a"],), (("a",),),
        [()], [None], [[]], [["a"]], ["A"], [1, 2], [True], ["a", "a"], ["a", None], [{}],
        {}, {"a": "b"}, {0: ["a"]}, {("a", (1, None, True)): ("a",)},
        nested(60, lambda thing: [thing]), nested(60, lambda thing: (thing,)),
        nested(60, lambda thing: {"a": thing}), nested(59, lambda thing: ("a", thing)),
        [None] * 5000, (None,) * 5000, ["a"] * 5000, "a" * 5000,
        Book(["a"], []), Book(SIGNS, RULES), [Book(["a"], [])], ("a", Book(["a"], [])),
        (Book(["a"], []),), BroodError("wrong"), ParseError(3), Reader(BOOK), ("f", Reader(BOOK)),
        Document(BOOK, "a"), [Document(BOOK, "a")], Shell(), ("a", Shell()),
    ]


def ordered_trees(signs, places):
    """All trees of so many places, also those that are not plain."""
    return [(sign, *row) for sign in signs for row in _ordered_rows(signs, places - 1)]


def _ordered_rows(signs, places):
    if places == 0:
        return [()]
    return [
        (first, *row)
        for head in range(1, places + 1)
        for first in ordered_trees(signs, head)
        for row in _ordered_rows(signs, places - head)
    ]


def alike_by_definition(one, other):
    """Whether the brothers of two trees can be put side by side so that they are alike."""
    if one[0] != other[0] or len(one) != len(other):
        return False
    return any(
        all(alike_by_definition(*pair) for pair in zip(one[1:], row))
        for row in itertools.permutations(other[1:])
    )


def snapshot(thing):
    """What an object looks like now, books within it, too; True is told from 1 here, which == does not."""
    if isinstance(thing, Book):
        return f"Book({thing.signs!r}, {thing.rules!r}, {thing.kinds!r})"
    if isinstance(thing, Reader):
        return f"Reader({thing.lots!r}, {thing.signs!r})"
    if isinstance(thing, Document):
        return f"Document({thing.tree!r}, {len(thing)!r})"
    if isinstance(thing, (list, tuple)):
        return type(thing).__name__ + "(" + ", ".join(map(snapshot, thing)) + ")"
    return repr(thing)


class CallCase(unittest.TestCase):
    """A test case that can check calls for errors, changed arguments and bools."""

    def assert_each_raises(self, error, call, things):
        for thing in things:
            with self.subTest(thing=repr(thing)[:80]):
                with self.assertRaises(error) as caught:
                    call(thing)
                self.assertIs(type(caught.exception), error)

    def assert_each_false(self, call, things):
        for thing in things:
            with self.subTest(thing=repr(thing)[:80]):
                self.assertIs(call(thing), False)

    def assert_each_true(self, call, things):
        for thing in things:
            with self.subTest(thing=repr(thing)[:80]):
                self.assertIs(call(thing), True)

    def assert_raises_exactly(self, error, call, *passed):
        with self.assertRaises(error) as caught:
            call(*passed)
        self.assertIs(type(caught.exception), error)

    def assert_leaves_unchanged(self, call, *passed):
        before = snapshot(passed)
        try:
            call(*passed)
        except BroodError:
            pass
        self.assertEqual(snapshot(passed), before)
