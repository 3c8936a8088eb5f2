"""Promise 14: wishes that are made, and their least trees."""

import random
import unittest

from broodcounts.books import Book
from broodcounts.errors import InvalidBook, InvalidWish
from broodcounts.made import is_made, least, least_size
from broodcounts.trees import plain, size, trees_of_size
from broodcounts.wishes import is_of
from tests import naive
from tests.support import A, BOOK, MANY_SIGNS, NO_WISHES, SIGNS, TWO_SIGNS, CallCase

NO_BROTHERS = (None, 0, 0, 1, 0)


class MadeTest(CallCase):
    def check(self, book, wish, expected):
        """Compare with the size that is expected."""
        tree = least(book, wish)
        self.assertIs(is_made(book, wish), expected is not None)
        self.assertEqual(least_size(book, wish), expected)
        if expected is None:
            self.assertIsNone(tree)
        else:
            self.assertEqual((plain(book.signs, tree), size(book.signs, tree)), (tree, expected))
            self.assertIs(is_of(book, wish, tree), True)

    def test_wishes_that_no_tree_is_of(self):
        for wish in ["nokind", ("and", "leaf", "even"), ("and", "even", ("not", "even")), ("not", ("or", "x", ("not", "x"))),
                     ("and", "leaf", "wide")]:
            self.check(BOOK, wish, None)
        self.check(Book(["a"], [("x", "a", (("x", 1, None, 1, 0),))]), "x", None)
        self.check(Book(["a"], []), "x", None)

    def test_wishes_that_each_tree_is_of(self):
        for wish in [("not", "nokind"), ("or", "leaf", ("not", "leaf"))]:
            self.check(BOOK, wish, 1)
        self.check(Book(["a"], []), ("not", "x"), 1)

    def test_one_place_and_several(self):
        for wish, expected in [("leaf", 1), ("even", 1), (("not", "even"), 1), ("wide", 4), (("and", "even", "wide"), 5),
                               (("not", ("or", "leaf", "even")), 2), (("and", "wide", ("not", "even")), 4)]:
            self.check(BOOK, wish, expected)

    def test_kinds_that_need_one_another(self):
        book = Book(["a", "b"], [
            ("x", "a", (("y", 1, None, 1, 0),)), ("y", "a", (("x", 2, None, 1, 0),)), ("y", "b", ((None, 3, 3, 1, 0),))])
        self.check(book, "y", 4)
        self.check(book, "x", 5)
        self.check(book, ("and", "x", "y"), 15)
        nothing = Book(["a"], [("x", "a", (("y", 1, None, 1, 0),)), ("y", "a", (("x", 1, None, 1, 0),))])
        self.check(nothing, "x", None)

    def test_wide_and_deep(self):
        book = Book(["a", "b"], [("x", "a", (NO_BROTHERS,)), ("y", "b", (("x", 5, None, 2, 0), ("x", 0, None, 3, 1))),
                                 ("z", "b", (("y", 5, 5, 1, 0),))])
        self.check(book, "y", 11)
        self.check(book, "z", 56)

    def test_sizes_beyond_all_trees(self):
        def ten(kind):
            return ((kind, 5, None, 2, 0), (kind, 0, None, 3, 1))

        rules = [("x", "a", (NO_BROTHERS,)), ("y", "b", ten("x")), ("z", "c", ten("y")), ("y", "d", ten("z")),
                 ("z", "d", ten("z"))]
        book = Book(list("abcd"), rules)
        self.assertEqual(least_size(book, ("and", "y", "z")), 1111)
        self.assertEqual(size(book.signs, least(book, ("and", "y", "z"))), 1111)

    def test_several_small_brothers_instead_of_few_great_ones(self):
        # One y of five places and a tree of seven that is y and z would do; two y and one z are less.
        book = Book(list("abcd"), [
            ("z", "a", ()), ("y", "b", (("z", 4, 4, 1, 0),)), ("y", "c", (("z", 5, None, 3, 0),)),
            ("z", "c", (("z", 5, None, 3, 0),)), ("w", "d", (("y", 2, 2, 1, 0), ("z", 1, 1, 1, 0)))])
        self.check(book, ("and", "y", "z"), 7)
        self.check(book, "w", 12)

    def test_ties(self):
        book = Book(["a", "b"], [("x", "a", ((None, 1, 1, 1, 0),)), ("x", "b", ((None, 1, 1, 1, 0),))])
        self.check(book, "x", 2)
        self.assertIn(least(BOOK, "leaf"), [("a",), ("b",)])

    def test_brothers_are_plain_and_ascend(self):
        book = Book(SIGNS, [("x", "f", (("y", 1, 1, 1, 0), ("z", 1, 1, 1, 0))), ("y", "b", ((None, 1, 1, 1, 0),)),
                            ("z", "a", (NO_BROTHERS,))])
        self.check(book, "x", 4)
        self.assertEqual(least(book, ("and", "x", "x"))[1], A)

    def test_as_defined(self):
        source = random.Random(31)
        for book in naive.random_books(31, 120, signs=["a", "b"]):
            wish = naive.random_wish(source, ["x", "y", "z"])
            sizes = [places for places in range(1, 6) for tree in trees_of_size(book.signs, places)
                     if naive.is_met(wish, naive.lot(book, tree))]
            if sizes:
                self.check(book, wish, sizes[0])
            else:
                self.assertTrue(least_size(book, wish) is None or least_size(book, wish) > 5)
                self.check(book, wish, least_size(book, wish))

    def test_made_just_if_a_lot_is_of_the_wish(self):
        source = random.Random(32)
        for book in naive.random_books(32, 60):
            wish = naive.random_wish(source, ["x", "y", "z"])
            there = any(naive.is_met(wish, lot) for lot in naive.lots_and_broods(book)[0])
            self.assertIs(is_made(book, wish), there)

    def test_at_the_bounds(self):
        for book in (MANY_SIGNS, TWO_SIGNS):
            for wish in [("and", "x", ("and", "y", "z")), ("not", ("or", "x", ("or", "y", "z")))]:
                self.check(book, wish, least_size(book, wish))

    def test_the_same_wish_again_behind_another(self):
        wishes = [("and", "even", "wide"), "leaf", ("and", "leaf", "even"), "wide"]
        book = Book(SIGNS, BOOK.rules)
        told = [(is_made(book, wish), least_size(book, wish), least(book, wish)) for wish in wishes]
        for wish, expected in [*zip(wishes, told)] + [*zip(wishes, told)][::-1]:
            self.assertEqual((is_made(book, wish), least_size(book, wish), least(book, wish)), expected)

    def test_errors(self):
        for call in (is_made, least_size, least):
            self.assert_each_raises(InvalidWish, lambda wish: call(BOOK, wish), NO_WISHES)
            self.assert_each_raises(InvalidBook, lambda wish: call(SIGNS, wish), NO_WISHES)


if __name__ == "__main__":
    unittest.main()
