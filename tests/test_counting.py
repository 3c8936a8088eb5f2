"""Promise 17: how many plain trees of a wish have a size, and their list."""

import random
import unittest

from broodcounts.books import Book
from broodcounts.counting import count, listed, place_of, tree_at
from broodcounts.errors import InvalidBook, InvalidNumber, InvalidTree, InvalidWish, TooMany
from broodcounts.trees import plain, trees_of_size
from tests import naive
from tests.support import A, B, BOOK, MANY_SIGNS, SIGNS, CallCase, chain, odd_objects

F = ("f",)
EVERY = ("not", "nokind")
EIGHT = Book(list("abcdefgh"), [("x", "a", ((None, 0, 0, 1, 0),)), ("y", "b", (("x", 2, None, 1, 0),))])
ONE_SIGN = Book(["a"], [("even", "a", ((None, 0, None, 2, 0),)), ("few", "a", ((None, 0, 2, 1, 0), ("few", 0, 1, 1, 0)))])
NO_NUMBERS = [thing for thing in odd_objects() if isinstance(thing, bool) or not isinstance(thing, int)]


def all_numbers(many, most):
    """How many plain trees of so many signs have each size, made one size of brothers after the other."""
    rows, numbers = [1] + [0] * most, [0]
    for places in range(1, most + 1):
        numbers.append(many * rows[places - 1])
        longer = [0] * (most + 1)
        for total in range(most + 1):
            ways, picked = 1, 0
            while total - picked * places >= 0:
                longer[total] += rows[total - picked * places] * ways
                ways = ways * (numbers[places] + picked) // (picked + 1)
                picked += 1
        rows = longer
    return numbers


class CountTest(CallCase):
    def test_small_sizes_one_by_one(self):
        source = random.Random(81)
        for book in [BOOK, EIGHT, ONE_SIGN] + naive.random_books(81, 60) + naive.random_books(82, 20, kinds="xyz", bound=4,
                                                                                             most=900):
            wish = naive.random_wish(source, book.kinds + ["x", "nokind"])
            for places in range(1, 6 if len(book.signs) < 3 else 4):
                trees = [tree for tree in trees_of_size(book.signs, places) if naive.is_met(wish, naive.lot(book, tree))]
                self.assertEqual(count(book, wish, places), len(trees))
                self.assertEqual(listed(book, wish, places), trees)

    def test_great_numbers(self):
        self.assertEqual(count(Book(["a"], []), ("not", "k"), 20), 12826228)
        self.assertEqual([count(Book(["a"], []), ("not", "k"), places) for places in range(1, 14)],
                         [1, 1, 2, 4, 9, 20, 48, 115, 286, 719, 1842, 4766, 12486])
        for book in (Book(["a", "b"], []), BOOK, EIGHT, MANY_SIGNS):
            numbers = all_numbers(len(book.signs), 20)
            self.assertEqual([count(book, EVERY, places) for places in (1, 2, 7, 12, 13, 20)],
                             [numbers[places] for places in (1, 2, 7, 12, 13, 20)])

    def test_a_wish_and_its_opposite(self):
        for book in [BOOK, MANY_SIGNS] + naive.random_books(83, 20):
            for wish in (book.kinds + ["nokind"])[:2]:
                for places in (6, 19, 20):
                    numbers = all_numbers(len(book.signs), places)
                    self.assertEqual(count(book, wish, places) + count(book, ("not", wish), places), numbers[places])

    def test_wide_trees_by_remainder(self):
        book = Book(["a", "b"], [("leaf", "a", ((None, 0, 0, 1, 0),)), ("x", "b", (("leaf", 5, None, 3, 1), (None, 0, None, 2, 1)))])
        only = Book(["a", "b"], [("leaf", "a", ((None, 0, 0, 1, 0),)), ("other", "b", ()),
                                 ("other", "a", ((None, 1, None, 1, 0),)), ("x", "b", (("leaf", 5, None, 3, 1), ("other", 0, 0, 1, 0)))])
        self.assertEqual([places for places in range(1, 21) if count(only, "x", places)], [8, 11, 14, 17, 20])
        self.assertEqual([count(book, "x", places) for places in range(1, 9)], [0, 0, 0, 0, 0, 0, 0, 1])

    def test_nothing(self):
        for places in (1, 5, 20):
            self.assertEqual(count(BOOK, "nokind", places), 0)
        self.assertEqual([count(BOOK, "leaf", places) for places in (1, 2, 20)], [2, 0, 0])

    def test_no_sizes(self):
        for places in [0, 21, -1, 10 ** 39] + NO_NUMBERS:
            self.assert_raises_exactly(InvalidNumber, count, BOOK, "leaf", places)
        self.assertEqual(count(BOOK, "leaf", 13), 0)
        self.assert_raises_exactly(InvalidWish, count, BOOK, (), 0)
        self.assert_raises_exactly(InvalidBook, count, None, (), 0)


class ListedTest(CallCase):
    def test_lists(self):
        self.assertEqual(listed(BOOK, "leaf", 1), [A, B])
        self.assertEqual(listed(BOOK, "leaf", 2), [])
        self.assertEqual(listed(BOOK, "even", 3), [
            tree for tree in trees_of_size(SIGNS, 3) if naive.lot(BOOK, tree) == ("even",)])
        self.assertEqual(listed(BOOK, EVERY, 4), trees_of_size(SIGNS, 4))

    def test_signs_in_any_order(self):
        self.assertEqual(listed(Book(SIGNS[::-1], BOOK.rules), "even", 4), listed(BOOK, "even", 4))

    def test_just_a_thousand_or_fewer(self):
        for book, places, many in [(ONE_SIGN, 10, 719), (EIGHT, 3, 800), (Book(["b", "a"], []), 6, 916)]:
            self.assertEqual(len(listed(book, EVERY, places)), many)
            self.assertEqual(len(listed(book, "nokind", places)), 0)
        for book, places in [(ONE_SIGN, 11), (ONE_SIGN, 12), (EIGHT, 4), (Book(["b", "a"], []), 7), (BOOK, 5), (BOOK, 12)]:
            for wish in (EVERY, "nokind"):
                self.assert_raises_exactly(TooMany, listed, book, wish, places)
                if wish == EVERY:
                    self.assert_raises_exactly(TooMany, tree_at, book, wish, places, 0)

    def test_no_sizes(self):
        for places in [0, 13, 20, -1, 10 ** 39] + NO_NUMBERS:
            self.assert_raises_exactly(InvalidNumber, listed, BOOK, "leaf", places)
            self.assert_raises_exactly(InvalidNumber, tree_at, BOOK, EVERY, places, 0)
        for call in (listed, lambda book, wish, places: tree_at(book, wish, places, None)):
            self.assert_raises_exactly(InvalidWish, call, BOOK, (), 13)
            self.assert_raises_exactly(InvalidBook, call, None, (), 13)


class PlacesTest(CallCase):
    def test_there_and_back(self):
        source = random.Random(84)
        for book in [BOOK, ONE_SIGN] + naive.random_books(84, 20):
            wish = naive.random_wish(source, book.kinds + ["nokind"])
            for places in (1, 3, 4):
                trees = listed(book, wish, places)
                for at in range(0, len(trees), 1 + len(trees) // 5):
                    self.assertEqual(tree_at(book, wish, places, at), trees[at])
                    self.assertEqual(place_of(book, wish, trees[at]), at)

    def test_trees_that_are_not_plain(self):
        source = random.Random(85)
        for _ in range(40):
            tree = naive.random_tree(source, SIGNS, 4)
            wish = "even" if naive.is_met("even", naive.lot(BOOK, tree)) else ("not", "even")
            place = place_of(BOOK, wish, tree)
            self.assertEqual(tree_at(BOOK, wish, 4, place), plain(SIGNS, tree))
        tree = ("a", ("a", ("a",), ("a",)), ("a",), ("a", ("a",)), ("a",))
        self.assertEqual(listed(ONE_SIGN, EVERY, 8)[place_of(ONE_SIGN, EVERY, tree)], plain(["a"], tree))

    def test_indexes(self):
        many = count(BOOK, "even", 4)
        self.assertEqual(tree_at(BOOK, "even", 4, many - 1), listed(BOOK, "even", 4)[-1])
        for index in [many, many + 1, -1, -many, 10 ** 39] + NO_NUMBERS:
            self.assert_raises_exactly(InvalidNumber, tree_at, BOOK, "even", 4, index)
        self.assert_raises_exactly(InvalidNumber, tree_at, BOOK, "leaf", 2, 0)
        self.assert_raises_exactly(InvalidNumber, tree_at, BOOK, "nokind", 1, 0)

    def test_an_index_that_is_not_there_comes_before_too_many(self):
        many = count(EIGHT, "y", 4)
        for index in (0, many - 1):
            self.assert_raises_exactly(TooMany, tree_at, EIGHT, "y", 4, index)
        for index in [many, -1, True, None]:
            self.assert_raises_exactly(InvalidNumber, tree_at, EIGHT, "y", 4, index)
        self.assert_raises_exactly(InvalidNumber, tree_at, EIGHT, "x", 12, 0)

    def test_trees_that_are_not_of_the_wish(self):
        for wish, tree in [("leaf", F), ("even", ("f", A)), ("nokind", A), (("not", "leaf"), B)]:
            self.assert_raises_exactly(InvalidTree, place_of, BOOK, wish, tree)
        self.assert_raises_exactly(InvalidTree, place_of, EIGHT, "x", ("a", A, A, A))
        self.assert_raises_exactly(TooMany, place_of, EIGHT, ("not", "x"), ("a", A, A, A))

    def test_trees_of_more_than_twelve_places(self):
        for tree in (chain(13), ("f", *[A] * 12), ("f", *[A] * 4999), chain(40)):
            self.assert_raises_exactly(InvalidTree, place_of, BOOK, EVERY, tree)
        self.assert_raises_exactly(TooMany, place_of, BOOK, EVERY, chain(12))
        self.assert_raises_exactly(InvalidTree, place_of, ONE_SIGN, EVERY, ("a", *[A] * 12))
        self.assert_raises_exactly(TooMany, place_of, ONE_SIGN, EVERY, ("a", *[A] * 10))
        self.assertEqual(place_of(ONE_SIGN, EVERY, ("a", *[A] * 9)), 0)

    def test_no_trees(self):
        for tree in [None, (), ("z",), ("f", None), ("f", A, [A])]:
            self.assert_raises_exactly(InvalidTree, place_of, BOOK, EVERY, tree)
        self.assert_raises_exactly(InvalidWish, place_of, BOOK, (), None)
        self.assert_raises_exactly(InvalidBook, place_of, SIGNS, (), None)


if __name__ == "__main__":
    unittest.main()
