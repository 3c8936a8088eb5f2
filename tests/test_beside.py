"""Promise 16: wishes by one book beside wishes by another one."""

import random
import unittest

from broodcounts.beside import are_alike, holds, parting
from broodcounts.books import Book
from broodcounts.errors import InvalidBook, InvalidMatch, InvalidWish
from broodcounts.trees import plain, size, trees_of_size
from broodcounts.wishes import is_of
from tests import naive
from tests.support import A, BOOK, NO_WISHES, RULES, SIGNS, CallCase

LEAF = (None, 0, 0, 1, 0)


class BesideCase(CallCase):
    def check(self, one, wish, other, other_wish, held, parted):
        """Compare with whether the wish holds, and with the size of the least tree that parts (None: there is none)."""
        passed = (one, wish, other, other_wish)
        tree = parting(*passed)
        self.assertIs(holds(*passed), held)
        self.assertIs(are_alike(*passed), parted is None)
        if parted is None:
            self.assertIsNone(tree)
        else:
            self.assertEqual((plain(one.signs, tree), size(one.signs, tree)), (tree, parted))
            self.assertNotEqual(is_of(one, wish, tree), is_of(other, other_wish, tree))


class BesideTest(BesideCase):
    def test_a_book_beside_itself(self):
        for wish in ("leaf", "even", "wide", ("or", "leaf", "wide"), "nokind", ("not", "nokind")):
            self.check(BOOK, wish, BOOK, wish, True, None)
            self.check(BOOK, wish, Book(SIGNS, RULES), wish, True, None)
        self.check(BOOK, "even", BOOK, ("and", "even", "wide"), True, 1)
        self.check(BOOK, ("and", "even", "wide"), BOOK, "even", False, 1)
        self.check(BOOK, "wide", BOOK, ("not", "leaf"), False, 1)
        self.check(BOOK, ("not", "leaf"), BOOK, "wide", True, 1)

    def test_a_rule_more_or_less(self):
        less = Book(SIGNS, RULES[:2] + RULES[3:])
        self.check(less, "wide", BOOK, "wide", True, None)
        self.check(less, ("not", "nokind"), BOOK, "even", True, 1)
        self.check(BOOK, "even", less, "even", True, 1)
        self.check(less, "even", BOOK, "even", False, 1)
        more = Book(SIGNS, RULES + [("wide", "f", (("leaf", 2, 2, 1, 0),))])
        self.check(more, "wide", BOOK, "wide", True, 3)
        self.check(BOOK, "wide", more, "wide", False, 3)

    def test_signs_in_another_order(self):
        for signs in (["f", "b", "a"], ["b", "f", "a"]):
            self.check(BOOK, "even", Book(signs, RULES), "even", True, None)
            self.check(Book(signs, RULES), "even", BOOK, ("not", "leaf"), False, 2)

    def test_kinds_of_one_name_are_kept_apart(self):
        one = Book(["a", "b"], [("x", "a", (LEAF,)), ("y", "b", (("x", 1, None, 1, 0),))])
        other = Book(["a", "b"], [("x", "b", (LEAF,)), ("y", "b", (("x", 1, None, 1, 0),))])
        self.check(one, "x", other, "x", False, 1)
        self.check(one, "x", other, ("not", "x"), False, 2)
        self.check(one, ("not", "x"), other, "x", True, 2)
        self.check(one, "y", other, "y", False, 2)
        self.check(one, ("or", "x", "y"), other, "y", False, 1)

    def test_kinds_that_are_none_of_a_book(self):
        one, other = Book(["a"], [("x", "a", ())]), Book(["a"], [("y", "a", ())])
        self.check(one, "x", other, "y", True, None)
        self.check(one, "x", other, "x", True, 1)
        self.check(one, "y", other, "x", True, None)
        self.check(one, "y", other, ("not", "x"), False, 1)
        self.check(one, ("not", "y"), other, ("not", "x"), True, None)

    def test_other_rules_for_the_same_trees(self):
        one = Book(["a"], [("odd", "a", ((None, 0, None, 2, 1),))])
        other = Book(["a"], [("k", "a", ((None, 1, 1, 1, 0),)), ("k", "a", ((None, 2, None, 2, 1),))])
        self.check(one, "odd", other, "k", True, None)
        third = Book(["a"], [("k", "a", ((None, number, number, 1, 0),)) for number in (1, 3, 5)])
        self.check(one, "odd", third, "k", True, 8)
        self.check(third, "k", one, "odd", False, 8)

    def test_steps_of_two_and_three(self):
        one = Book(["a"], [("x", "a", ((None, 0, None, 2, 0),))])
        other = Book(["a"], [("y", "a", ((None, 0, None, 3, 0),))])
        self.check(one, "x", other, "y", False, 3)
        both = Book(["a"], [("z", "a", ((None, 0, None, 2, 0), (None, 0, None, 3, 0), (None, 1, None, 1, 0)))])
        self.check(one, "x", both, "z", True, 1)
        self.check(other, ("and", "y", "y"), both, "z", True, 1)
        self.check(both, "z", Book(["a"], []), "k", True, 7)

    def test_books_without_rules(self):
        empty = Book(SIGNS, [])
        self.check(empty, "leaf", empty, "even", True, None)
        self.check(empty, ("not", "k"), BOOK, "wide", True, 1)
        self.check(empty, "k", BOOK, "wide", False, 4)
        self.check(BOOK, ("or", "leaf", ("not", "leaf")), empty, ("not", "leaf"), True, None)

    def test_as_defined(self):
        source = random.Random(71)
        told = set()
        for one in naive.random_books(71, 150):
            other = naive.random_book(source, one.signs[::-1], "xy", 1)
            wish, other_wish = naive.random_wish(source, ["x", "y", "z"]), naive.random_wish(source, ["x", "y"], 1)
            trees = [(tree, naive.is_met(wish, naive.lot(one, tree)), naive.is_met(other_wish, naive.lot(other, tree)))
                     for places in range(1, 5) for tree in trees_of_size(one.signs, places)]
            parted = [size(one.signs, tree) for tree, first, second in trees if first != second]
            tree = parting(one, wish, other, other_wish)
            if not parted and tree is not None:
                self.assertGreater(size(one.signs, tree), 4)
                parted = [size(one.signs, tree)]
            held = holds(one, wish, other, other_wish)
            if any(second and not first for _, first, second in trees):
                self.assertIs(held, False)
            self.check(one, wish, other, other_wish, held, parted[0] if parted else None)
            joined = joined_book(one, other)
            if sum(naive.cap_and_step(joined)) ** len(joined.kinds) <= 100:
                lots = naive.lots_and_broods(joined)[0]
                self.assertIs(held, all(naive.is_met(renamed_wish(wish, "p"), lot) for lot in lots
                                        if naive.is_met(renamed_wish(other_wish, "q"), lot)))
            told.add((held, bool(parted)))
        self.assertEqual(told, {(True, False), (True, True), (False, True)})

    def test_both_ways_just_if_alike(self):
        source = random.Random(72)
        for one in naive.random_books(72, 60):
            other = naive.random_book(source, one.signs, "xy", 1)
            for wish in ("x", ("not", "y"), ("or", "x", "y")):
                both = holds(one, wish, other, wish) and holds(other, wish, one, wish)
                self.assertIs(are_alike(one, wish, other, wish), both)
                self.assertIs(are_alike(other, wish, one, wish), both)


def joined_book(one, other):
    """A book with the rules of both, kinds renamed."""
    return Book(one.signs, [renamed(rule, "p") for rule in one.rules] + [renamed(rule, "q") for rule in other.rules])


def renamed(rule, letter):
    kind, sign, asks = rule
    return (letter + kind, sign, tuple((ask[0] and letter + ask[0], *ask[1:]) for ask in asks))


def renamed_wish(wish, letter):
    return letter + wish if isinstance(wish, str) else (wish[0], *[renamed_wish(part, letter) for part in wish[1:]])


class ErrorsTest(CallCase):
    def test_signs_that_are_not_the_same(self):
        for signs in (["a"], ["a", "b"], ["a", "b", "g"], ["a", "b", "f", "g"]):
            other = Book(signs, [])
            for call in (holds, parting, are_alike):
                self.assert_raises_exactly(InvalidMatch, call, BOOK, "leaf", other, "leaf")
                self.assert_raises_exactly(InvalidMatch, call, other, "leaf", BOOK, "leaf")

    def test_signs_are_the_last_of_all_errors(self):
        other = Book(["z"], [])
        for call in (holds, parting, are_alike):
            self.assert_each_raises(InvalidWish, lambda wish: call(BOOK, wish, other, "leaf"), NO_WISHES)
            self.assert_each_raises(InvalidWish, lambda wish: call(BOOK, "leaf", other, wish), NO_WISHES)
            self.assert_raises_exactly(InvalidBook, call, other, "leaf", None, ())
            self.assert_raises_exactly(InvalidBook, call, None, (), other, ())
            self.assert_raises_exactly(InvalidWish, call, other, (), None, ())

    def test_nothing_changes(self):
        self.assert_leaves_unchanged(holds, BOOK, "even", Book(SIGNS[::-1], RULES), ("not", "leaf"))
        self.assertIn(parting(BOOK, "leaf", BOOK, "even"), [A, ("b",), ("f",)])


if __name__ == "__main__":
    unittest.main()
