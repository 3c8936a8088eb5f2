"""What several test files need: objects of every kind, and checks of calls."""

import copy
import itertools
import unittest

from broodcounts.books import Book
from broodcounts.errors import BroodError, ParseError

SIGNS = ["a", "b", "f"]
A = ("a",)
B = ("b",)
NO_BROTHERS = (None, 0, 0, 1, 0)
LEAVES = [("leaf", "a", (NO_BROTHERS,)), ("leaf", "b", (NO_BROTHERS,))]
RULES = LEAVES + [
    ("even", "f", (("leaf", 0, None, 2, 0), ("even", 0, 1, 1, 0))),
    ("wide", "f", (("leaf", 3, None, 1, 0),)),
]


def nested(levels, wrap):
    """An object that is wrapped so many times."""
    thing = None
    for _ in range(levels):
        thing = wrap(thing)
    return thing


def chain(levels, leaf="a"):
    """A tree that is so many levels deep, with one brother at each level."""
    tree = (leaf,)
    for _ in range(levels - 1):
        tree = ("f", tree)
    return tree


def odd_objects():
    """Objects of every kind that are no signs, trees, asks, rules or lists of rules."""
    return [
        None, True, False, 0, 1, -1, 13, 10 ** 40 - 1, -(10 ** 40 - 1),
        "", "a", "A", "abcdefgh", "abcdefghi", "a b", "tab\tand\nline", "~",
        (), (None,), (True,), (1, 2, 3), ((),), ([],), ({},), ("z",), ("A",), (["a"],), (("a",),),
        [()], [None], [[]], [["a"]], ["A"], [1, 2], [True], ["a", "a"], ["a", None], [{}],
        {}, {"a": "b"}, {0: ["a"]}, {("a", (1, None, True)): ("a",)},
        nested(60, lambda thing: [thing]), nested(60, lambda thing: (thing,)),
        nested(60, lambda thing: {"a": thing}), nested(59, lambda thing: ("a", thing)),
        [None] * 5000, (None,) * 5000, ["a"] * 5000, "a" * 5000,
        Book(["a"], []), Book(SIGNS, RULES), [Book(["a"], [])], ("a", Book(["a"], [])),
        (Book(["a"], []),), BroodError("wrong"), ParseError(3),
    ]


def ordered_trees(signs, places):
    """All trees of so many places, also those that are not plain."""
    return [(sign, *row) for sign in signs for row in _ordered_rows(signs, places - 1)]


def _ordered_rows(signs, places):
    if places == 0:
        return [()]
    return [
        (first, *row)
        for head in range(1, places + 1)
        for first in ordered_trees(signs, head)
        for row in _ordered_rows(signs, places - head)
    ]


def alike_by_definition(one, other):
    """Whether the brothers of two trees can be put side by side so that they are alike."""
    if one[0] != other[0] or len(one) != len(other):
        return False
    return any(
        all(alike_by_definition(*pair) for pair in zip(one[1:], row))
        for row in itertools.permutations(other[1:])
    )


class CallCase(unittest.TestCase):
    """A test case that can check calls for errors, changed arguments and bools."""

    def assert_each_raises(self, error, call, things):
        for thing in things:
            with self.subTest(thing=repr(thing)[:80]):
                with self.assertRaises(error) as caught:
                    call(thing)
                self.assertIs(type(caught.exception), error)

    def assert_each_false(self, call, things):
        for thing in things:
            with self.subTest(thing=repr(thing)[:80]):
                self.assertIs(call(thing), False)

    def assert_each_true(self, call, things):
        for thing in things:
            with self.subTest(thing=repr(thing)[:80]):
                self.assertIs(call(thing), True)

    def assert_raises_exactly(self, error, call, *passed):
        with self.assertRaises(error) as caught:
            call(*passed)
        self.assertIs(type(caught.exception), error)

    def assert_leaves_unchanged(self, call, *passed):
        before = copy.deepcopy(passed)
        try:
            call(*passed)
        except BroodError:
            pass
        # repr also tells True from 1, which == does not.
        self.assertEqual(repr(passed), repr(before))
