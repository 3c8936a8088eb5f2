"""Promise 20: least brothers to add to a tree or to take from it."""

import itertools
import random
import time
import unittest

from broodcounts.books import Book
from broodcounts.errors import InvalidBook, InvalidTree, InvalidWish, TooMany
from broodcounts.mending import least_added, least_taken
from broodcounts.trees import plain, size, trees_of_size
from broodcounts.wishes import is_of
from tests import naive
from tests.support import A, B, BOOK, MANY_SIGNS, NO_BROTHERS, NO_WISHES, SIGNS, TWO_SIGNS, CallCase, nested, snapshot

F = ("f",)
NO_TREES = [None, True, 0, "f", "a", (), [], ["f"], ("z",), ("f", ("z",)), ("f", None), ("f", "a"), ("f", [A]), {},
            ("f", (A,)), ("A",), (("f",),), BOOK, ("f", BOOK)]


class AddedTest(CallCase):
    def check(self, book, wish, tree, expected):
        """Compare with the total size that is expected."""
        told = least_added(book, wish, tree)
        if expected is None:
            self.assertIsNone(told)
            return
        self.assertIs(type(told), list)
        self.assertEqual(sum(size(book.signs, added) for added in told), expected)
        self.assertEqual(told, [plain(book.signs, added) for added in told])
        self.assertEqual(told, sorted(told, key=lambda added: (size(book.signs, added), added)))
        self.assertIs(is_of(book, wish, (*tree, *told)), True)

    def test_nothing_to_add(self):
        for wish, tree in [("leaf", A), ("even", F), ("even", ("f", B, A)), (("not", "leaf"), ("f", A)),
                           ("wide", ("f", A, F, B, A)), (("not", "nokind"), A)]:
            self.assertEqual(least_added(BOOK, wish, tree), [])

    def test_nothing_that_helps(self):
        for wish, tree in [("leaf", F), ("leaf", ("a", B)), ("even", A), ("wide", ("a", A, A)), ("nokind", F),
                           (("and", "leaf", ("not", "leaf")), A), ("even", ("f", F, F))]:
            self.check(BOOK, wish, tree, None)
        self.check(Book(["a"], []), "x", A, None)

    def test_one_tree_and_several(self):
        for wish, tree, expected in [
            ("even", ("f", A), 1), ("wide", F, 3), ("wide", ("f", A), 2), ("wide", ("f", F), 3),
            (("and", "wide", "even"), F, 4), (("and", "wide", ("not", "even")), ("f", A, B), 1), (("not", "leaf"), A, 1),
            (("and", "even", ("not", "wide")), ("f", A, A, A), None), (("and", "even", "wide"), ("f", F, A), 3),
        ]:
            self.check(BOOK, wish, tree, expected)

    def test_several_of_different_lots(self):
        book = Book(["a", "b", "c"], [
            ("x", "a", (NO_BROTHERS,)), ("y", "b", (NO_BROTHERS,)), ("z", "c", (("x", 2, None, 1, 0), ("y", 1, 1, 1, 0))),
        ])
        self.check(book, "z", ("c",), 3)
        self.assertEqual(least_added(book, "z", ("c",)), [("a",), ("a",), ("b",)])
        self.assertEqual(least_added(book, "z", ("c", ("a",))), [("a",), ("b",)])
        self.check(book, "z", ("c", ("b",), ("b",)), None)

    def test_several_of_one_lot(self):
        book = Book(["a", "b"], [("x", "a", (NO_BROTHERS,)), ("y", "b", (("x", 5, None, 2, 0),)),
                                 ("z", "b", (("x", 5, 5, 1, 0),)), ("w", "b", (("x", 4, None, 3, 0), ("x", 0, None, 2, 1)))])
        self.assertEqual(least_added(book, "y", ("b",)), [("a",)] * 6)
        self.assertEqual(least_added(book, "z", ("b",)), [("a",)] * 5)
        self.assertEqual(least_added(book, "w", ("b",)), [("a",)] * 9)
        self.assertEqual(least_added(book, "w", ("b", *[("a",)] * 10)), [("a",)] * 5)
        self.assertEqual(least_added(book, "y", ("b", *[("a",)] * 3)), [("a",)] * 3)
        self.assertEqual(least_added(book, "y", ("b", *[("a",)] * 7)), [("a",)])
        self.check(book, "z", ("b", *[("a",)] * 6), None)

    def test_the_number_of_all_brothers_counts(self):
        book = Book(["a"], [("x", "a", ((None, 2, 2, 1, 0),)), ("y", "a", ((None, 3, None, 3, 1),)),
                            ("z", "a", (("x", 1, 1, 1, 0), (None, 1, 1, 1, 0)))])
        self.assertEqual(least_added(book, "x", ("a",)), [("a",), ("a",)])
        self.assertEqual(least_added(book, "y", ("a",)), [("a",)] * 4)
        self.assertEqual(least_added(book, "y", ("a", *[("a",)] * 5)), [("a",)] * 2)
        self.assertEqual(least_added(book, "z", ("a",)), [("a", ("a",), ("a",))])
        self.check(book, "x", ("a", *[("a",)] * 3), None)
        self.check(book, "z", ("a", ("a",)), None)

    def test_great_brothers(self):
        book = Book(["a", "b"], [("x", "a", ((None, 4, 4, 1, 0),)), ("y", "b", (("x", 3, None, 1, 0),))])
        self.check(book, "y", ("b",), 15)
        self.check(book, "y", ("b", ("a", *[("b",)] * 4), ("b",)), 10)

    def test_one_great_brother_or_several_small_ones(self):
        # An x and y of seven places, or an x of three and a y of three.
        book = Book(["a", "b"], [
            ("x", "a", ((None, 2, 2, 1, 0),)), ("y", "b", ((None, 2, 2, 1, 0),)), ("x", "a", ((None, 5, None, 1, 0),)),
            ("y", "a", ((None, 5, None, 1, 0),)), ("z", "a", (("x", 1, None, 1, 0), ("y", 1, None, 1, 0))),
            ("w", "a", (("x", 1, None, 1, 0), ("y", 1, None, 1, 0), (None, 1, 1, 1, 0))),
        ])
        self.check(book, "z", ("a",), 6)
        self.check(book, "w", ("a",), 6)
        self.assertEqual(len(least_added(book, "w", ("a",))), 1)

    def test_trees_that_are_not_plain(self):
        for tree in [("f", F, A), ("f", ("f", F, A), B), ("f", ("f", B, A, B), A, ("f", F, A), B)]:
            for wish in ("even", "wide", ("not", "even")):
                one, other = least_added(BOOK, wish, tree), least_added(BOOK, wish, plain(SIGNS, tree))
                self.check(BOOK, wish, tree, None if other is None else sum(size(SIGNS, part) for part in other))
                self.assertEqual(one is None, other is None)

    def test_where_high_forbids_more(self):
        book = Book(["a"], [("x", "a", ((None, 0, 2, 1, 0),))])
        tree = ("a", *[("a",)] * 5)
        self.assertIsNone(least_added(book, "x", tree))
        self.assertEqual(len(least_taken(book, "x", tree)), 3)

    def test_as_defined(self):
        source = random.Random(121)
        told = set()
        for book in naive.random_books(121, 200):
            wish = naive.random_wish(source, ["x", "y"])
            tree = naive.random_tree(source, book.signs, source.randint(1, 6))
            expected = least_total(book, wish, tree)
            found = least_added(book, wish, tree)
            if expected is None and found is not None:
                expected = sum(size(book.signs, part) for part in found)
                self.assertGreater(expected, 4)
            self.check(book, wish, tree, expected)
            if found is None:
                self.assertFalse(can_be_added(book, wish, tree))
            told.add(expected)
        self.assertTrue({None, 0, 1, 2, 3} <= told)

    def test_errors(self):
        self.assert_each_raises(InvalidTree, lambda tree: least_added(BOOK, "x", tree), NO_TREES)
        self.assert_each_raises(InvalidWish, lambda wish: least_added(BOOK, wish, None), NO_WISHES)
        self.assert_each_raises(InvalidBook, lambda wish: least_added(None, wish, None), NO_WISHES)


def least_total(book, wish, tree):
    """The least total size, up to four, of trees that may be added, by trying them all."""
    trees = [(places, part) for places in range(1, 5) for part in trees_of_size(book.signs, places)]
    rows = {total: [()] if total == 0 else [] for total in range(5)}
    for total in range(1, 5):
        rows[total] = [(*row, part) for places, part in trees if places <= total for row in rows[total - places]
                       if not row or (size(book.signs, row[-1]), row[-1]) <= (places, part)]
    for total, found in rows.items():
        if any(naive.is_met(wish, naive.lot(book, (*tree, *row))) for row in found):
            return total
    return None


def can_be_added(book, wish, tree):
    """Whether some lots of the book, however many, lead the tree to the wish."""
    there, _ = naive.lots_and_broods(book)
    start = [naive.lot(book, brother) for brother in tree[1:]]
    seen = {naive.brood(book, start)}
    waiting = [start]
    while waiting:
        row = waiting.pop()
        if naive.is_met(wish, naive.made_lot(book, tree[0], row)):
            return True
        for lot in there:
            if naive.brood(book, [*row, lot]) not in seen:
                seen.add(naive.brood(book, [*row, lot]))
                waiting.append([*row, lot])
    return False


class TakenTest(CallCase):
    def check(self, book, wish, tree, expected):
        """Compare with the number of places that is expected."""
        told = least_taken(book, wish, tree)
        if expected is None:
            self.assertIsNone(told)
            return
        self.assertIs(type(told), list)
        self.assertEqual(len(told), expected)
        self.assertEqual(told, sorted(set(told)))
        self.assertTrue(all(type(place) is int and 0 <= place < len(tree) - 1 for place in told))
        left = (tree[0], *[part for place, part in enumerate(tree[1:]) if place not in told])
        self.assertIs(is_of(book, wish, left), True)

    def test_none_one_and_all_places(self):
        self.assertEqual(least_taken(BOOK, "leaf", A), [])
        self.assertEqual(least_taken(BOOK, "even", ("f", A, F, B)), [])
        self.assertIn(least_taken(BOOK, "even", ("f", F, A, F, B)), [[0], [2]])
        self.assertIn(least_taken(BOOK, ("not", "wide"), ("f", A, B, F, A)), [[0], [1], [3]])
        self.assertEqual(least_taken(BOOK, "leaf", ("b", A, F, ("f", A))), [0, 1, 2])
        self.assertEqual(least_taken(BOOK, ("and", "even", ("not", "wide")), ("f", A)), [0])

    def test_where_nothing_helps(self):
        for wish, tree in [("leaf", F), ("wide", ("f", A, A)), ("nokind", ("f", A)), ("even", ("a", A, B)),
                           (("and", "even", "wide"), ("f", A, A, A, F))]:
            self.check(BOOK, wish, tree, None)

    def test_any_of_the_least_lists(self):
        self.assertIn(least_taken(BOOK, "even", ("f", F, F, F)), [[0, 1], [0, 2], [1, 2]])
        self.assertIn(least_taken(BOOK, "even", ("f", A, F, F)), [[0, 1], [0, 2]])
        self.assertIn(least_taken(BOOK, "even", ("f", ("f", A), A, B, A)), [[1], [2], [3]])

    def test_against_all_sublists(self):
        source = random.Random(122)
        told = set()
        for book in naive.random_books(122, 250):
            wish = naive.random_wish(source, ["x", "y"])
            tree = (source.choice(book.signs), *[
                naive.random_tree(source, book.signs, source.randint(1, 4)) for _ in range(source.randint(0, 6))])
            expected = fewest(book, wish, tree)
            self.check(book, wish, tree, expected)
            told.add(expected)
        self.assertTrue({None, 0, 1, 2, 3} <= told)

    def test_twelve_brothers_and_thirteen(self):
        for brother in (A, F):
            self.check(BOOK, "leaf", ("a", *[brother] * 12), 12)
            self.assert_raises_exactly(TooMany, least_taken, BOOK, "leaf", ("a", *[brother] * 13))
        self.assertEqual(least_taken(BOOK, "wide", ("f", *[A] * 12)), [])
        self.assert_raises_exactly(TooMany, least_taken, BOOK, "wide", ("f", *[A] * 13))
        self.assert_raises_exactly(TooMany, least_taken, BOOK, "nokind", ("f", *[A] * 4000))
        many = ("f", *[A, F, ("f", A)] * 4)
        self.check(BOOK, "even", many, 3)
        self.check(BOOK, ("and", "wide", "even"), many, 3)
        self.check(BOOK, ("and", "wide", ("not", "even")), many, 0)

    def test_twelve_brothers_of_many_lots(self):
        source = random.Random(123)
        for book in (MANY_SIGNS, TWO_SIGNS):
            for _ in range(5):
                tree = (source.choice(book.signs), *[naive.random_tree(source, book.signs, 3) for _ in range(12)])
                self.check(book, "x", tree, fewest(book, "x", tree))

    def test_errors(self):
        wide = ("f", *[A] * 13)
        self.assert_each_raises(InvalidTree, lambda tree: least_taken(BOOK, "x", tree), NO_TREES)
        self.assert_each_raises(InvalidTree, lambda tree: least_taken(BOOK, "x", (*wide, tree)), [None, [A], ("z",), 1])
        self.assert_each_raises(InvalidWish, lambda wish: least_taken(BOOK, wish, wide), NO_WISHES)
        self.assert_each_raises(InvalidWish, lambda wish: least_taken(BOOK, wish, None), NO_WISHES)
        self.assert_each_raises(InvalidBook, lambda wish: least_taken(None, wish, wide), NO_WISHES)


def fewest(book, wish, tree):
    """The least number of brothers without which a tree is of a wish, by trying all."""
    lots = [naive.lot(book, brother) for brother in tree[1:]]
    for many in range(len(lots), -1, -1):
        if any(naive.is_met(wish, naive.made_lot(book, tree[0], row)) for row in itertools.combinations(lots, many)):
            return len(lots) - many
    return None


class BothTest(CallCase):
    def test_the_same_again_and_nothing_changed(self):
        book = Book(SIGNS, BOOK.rules)
        before = snapshot(book)
        for wish, tree in [("wide", F), ("even", ("f", F, F)), (("not", "even"), F), ("wide", F), ("leaf", ("a", A))] * 2:
            for call in (least_added, least_taken):
                told = call(book, wish, tree)
                self.assertEqual(told, call(Book(SIGNS, BOOK.rules), wish, tree))
                if told:
                    told.append("spoiled")
                    self.assertNotEqual(told, call(book, wish, tree))
        self.assertEqual(snapshot(book), before)

    def test_at_the_bounds(self):
        wide = ("b", *[A] * 4999)
        deep = ("b", *[nested(39, lambda part: ("b", part) if part else A)] * 12)
        for book in (MANY_SIGNS, TWO_SIGNS):
            for wish in (("and", "x", ("not", "y")), ("and", "z", ("and", "x", "y")), "nokind"):
                for call, tree in [(least_added, wide), (least_added, deep), (least_taken, deep)]:
                    begun = time.perf_counter()
                    call(Book(book.signs, book.rules), wish, tree)
                    self.assertLess(time.perf_counter() - begun, 1)

    def test_many_small_ones(self):
        books = naive.random_books(124, 300)
        begun = time.perf_counter()
        for book in books:
            least_added(book, "x", (book.signs[0],))
            least_taken(book, "x", (book.signs[0], *[(book.signs[0],)] * 12))
        self.assertLess(time.perf_counter() - begun, 300 * 0.005)


if __name__ == "__main__":
    unittest.main()
