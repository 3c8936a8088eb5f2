"""Promises 8 and 15: wishes with finitely many trees, all of them, and growths of the others."""

import random
import time
import unittest

from broodcounts.books import Book
from broodcounts.broods import brood_of
from broodcounts.counting import count
from broodcounts.endless import all_trees, growth, is_finite, is_growth
from broodcounts.errors import InvalidBook, InvalidWish, TooMany
from broodcounts.surroundings import filled
from broodcounts.trees import plain, size, trees_of_size
from broodcounts.wishes import is_of, lot_of
from tests import naive
from tests.support import A, B, BOOK, SIGNS, CallCase, odd_objects

F = ("f",)
LEAF = (None, 0, 0, 1, 0)


def only(made, sign, kind, *numbers):
    """Rules for trees that have so many brothers, all of them of a kind."""
    return [(made, sign, ((kind, many, many, 1, 0), (None, many, many, 1, 0))) for many in numbers]


def flat(*asks):
    """Rules for the signs a and f: leaf, deep (with brothers), and k of trees with f whose brothers are leaves."""
    return [("leaf", "a", (LEAF,)), ("deep", "a", ((None, 1, None, 1, 0),)), ("deep", "f", ((None, 1, None, 1, 0),)),
            ("leaf", "f", (LEAF,)), ("k", "f", (("deep", 0, 0, 1, 0), *asks))]


# Pairs of leaves, and pairs of these: neither more brothers nor deeper ones.
BOUNDED = Book(SIGNS, [("leaf", "a", (LEAF,)), ("leaf", "b", (LEAF,)), *only("pair", "f", "leaf", 2),
                       *only("quad", "f", "pair", 1, 2)])
RING = Book(SIGNS, [("leaf", "a", (LEAF,)), *only("k", "f", "leaf", 1), *only("k", "f", "k", 1),
                    *only("top", "b", "k", 1)])
WIDE = Book(["a", "f"], flat(("leaf", 1, None, 1, 0)))
SIX = Book(["a", "f"], flat(("leaf", 0, None, 2, 0), ("leaf", 1, None, 3, 0)))
TOP = Book(["a", "f"], flat(("leaf", 1, None, 1, 0)) + only("top", "a", "k", 1))


class FiniteTest(CallCase):
    def test_nothing_made(self):
        for wish in ["nokind", ("and", "leaf", "even"), ("and", "wide", ("not", "wide"))]:
            self.assertIs(is_finite(BOOK, wish), True)
        self.assertIs(is_finite(Book(["a"], [("x", "a", (("x", 1, None, 1, 0),))]), "x"), True)

    def test_each_brood_bounded_and_no_ring(self):
        for wish in ("leaf", "pair", "quad", ("or", "pair", "quad")):
            self.assertIs(is_finite(BOUNDED, wish), True)
        for wish in (("not", "leaf"), ("not", ("or", "leaf", ("or", "pair", "quad")))):
            self.assertIs(is_finite(BOUNDED, wish), False)

    def test_deep_only(self):
        self.assertEqual([is_finite(RING, wish) for wish in ("leaf", "k", "top")], [True, False, False])
        self.assertEqual(growth(RING, "k")[0], "deep")

    def test_wide_only(self):
        self.assertEqual([is_finite(WIDE, wish) for wish in ("leaf", "k", "deep", "nokind")], [True, False, False, True])
        self.assertEqual(growth(WIDE, "k")[0], "wide")

    def test_wide_and_deep(self):
        for wish in ("even", "wide", ("not", "leaf")):
            self.assertIs(is_finite(BOOK, wish), False)

    def test_trees_that_stand_within(self):
        self.assertIs(is_finite(TOP, "top"), False)
        self.assertIs(is_finite(RING, ("and", "top", ("not", "k"))), False)
        self.assertIsNotNone(growth(TOP, "top")[3])
        self.assertIsNotNone(growth(RING, "top")[3])

    def test_trees_that_stand_deeper_within(self):
        for grows in (only("k", "f", "leaf", 1) + only("k", "f", "k", 1), flat(("leaf", 1, None, 1, 0))):
            book = Book(SIGNS, [("leaf", "a", (LEAF,)), *grows, *only("x", "b", "k", 1), *only("y", "b", "x", 1),
                                *only("z", "b", "y", 1)])
            self.assertEqual([is_finite(book, wish) for wish in ("leaf", "k", "x", "y", "z")], [True] + [False] * 4)
            for wish in "xyz":
                self.assertIs(is_growth(book, wish, growth(book, wish)), True)

    def test_rings_of_several_lots(self):
        for many in (2, 3):
            names = "xyz"[:many]
            rings = [rule for at, name in enumerate(names) for rule in only(name, "f", names[at - 1], 1)]
            book = Book(SIGNS, [*rings, ("x", "a", (LEAF,)), *only("top", "b", "y", 2)])
            for wish in [*names, "top"]:
                self.assertIs(is_finite(book, wish), False)
                self.assertIs(is_growth(book, wish, growth(book, wish)), True)
            self.assertIs(is_finite(Book(SIGNS, rings), "x"), True)

    def test_rings_that_lead_elsewhere(self):
        book = Book(SIGNS, [("leaf", "a", (LEAF,)), *only("x", "f", "x", 1), *only("y", "b", "leaf", 1, 2, 3)])
        self.assertEqual([is_finite(book, wish) for wish in ("x", "y", ("or", "x", "y"))], [True, True, True])
        self.assertIs(is_finite(book, ("not", "y")), False)

    def test_finite_just_without_growth(self):
        source = random.Random(51)
        for book in naive.random_books(51, 100):
            wish = naive.random_wish(source, ["x", "y", "z"])
            self.assertIs(is_finite(book, wish), growth(book, wish) is None)


class AllTreesTest(CallCase):
    def test_none_and_one(self):
        self.assertEqual(all_trees(BOOK, "nokind"), [])
        self.assertEqual(all_trees(Book(["a"], [("x", "a", (LEAF,))]), "x"), [A])

    def test_ascending_by_size_first(self):
        pairs = [("f", A, A), ("f", A, B), ("f", B, B)]
        self.assertEqual(all_trees(BOUNDED, "pair"), pairs)
        self.assertEqual(all_trees(BOUNDED, "quad"), [("f", pair) for pair in pairs] + [
            ("f", one, other) for at, one in enumerate(pairs) for other in pairs[at:]])
        self.assertEqual(all_trees(BOUNDED, ("or", "quad", "leaf"))[:3], [A, B, ("f", pairs[0])])
        book = Book(SIGNS, [*only("x", "f", "y", 1, 2), ("x", "a", (LEAF,)), ("y", "b", (LEAF,))])
        self.assertEqual(all_trees(book, "x"), [A, ("f", B), ("f", B, B)])

    def test_just_three_hundred(self):
        leaves = [("leaf", sign, (LEAF,)) for sign in "abcdefgh"]
        rules = only("y", "a", "leaf", 1, 2, 3) + only("y", "b", "leaf", 1, 3) + only("y", "c", "leaf", 1)
        book = Book(list("abcdefgh"), leaves + rules + [("z", "a", (LEAF,))])
        found = all_trees(book, "y")
        self.assertEqual((len(found), len(set(found))), (300, 300))
        self.assertEqual(len(all_trees(book, "leaf")), 8)
        for wish in (("or", "y", "z"), ("or", "y", "leaf")):
            self.assertIs(is_finite(book, wish), True)
            self.assert_raises_exactly(TooMany, all_trees, book, wish)

    def test_too_many(self):
        leaves = [("leaf", sign, (LEAF,)) for sign in "abcdefgh"]
        book = Book(list("abcdefgh"), leaves + only("y", "a", "leaf", 5) + only("z", "b", "y", 5))
        for wish in ("y", "z", ("or", "leaf", "z")):
            self.assertIs(is_finite(book, wish), True)
            self.assert_raises_exactly(TooMany, all_trees, book, wish)

    def test_far_too_many_are_told_soon(self):
        leaves = [("leaf", sign, (LEAF,)) for sign in "abcdefgh"]
        book = Book(list("abcdefgh"), leaves + only("y", "a", "leaf", 3) + only("z", "b", "y", 5))
        self.assertEqual(len(all_trees(book, "y")), 120)
        begun = time.perf_counter()
        self.assert_raises_exactly(TooMany, all_trees, book, "z")
        self.assertLess(time.perf_counter() - begun, 1)

    def test_no_end(self):
        for book, wish in [(BOOK, "wide"), (WIDE, "k"), (RING, "k"), (TOP, "top"), (BOOK, ("not", "nokind"))]:
            self.assert_raises_exactly(TooMany, all_trees, book, wish)

    def test_as_counted_and_listed(self):
        source = random.Random(52)
        for book in naive.random_books(52, 150):
            wish = naive.random_wish(source, ["x", "y", "z"])
            if is_finite(book, wish):
                self.check(book, wish)
        for wish in ("leaf", "pair", "quad", ("or", "quad", "leaf")):
            self.check(BOUNDED, wish)

    def check(self, book, wish):
        found = all_trees(book, wish)
        self.assertEqual(found, sorted(found, key=lambda tree: (size(book.signs, tree), tree)))
        self.assertEqual(len(set(found)), len(found))
        for tree in found:
            self.assertEqual(plain(book.signs, tree), tree)
            self.assertTrue(is_of(book, wish, tree))
        sizes = [size(book.signs, tree) for tree in found]
        self.assertEqual([count(book, wish, places) for places in range(1, 15)],
                         [sizes.count(places) for places in range(1, 15)])
        self.assertEqual([tree for tree in found if size(book.signs, tree) <= 4], [
            tree for places in range(1, 5) for tree in trees_of_size(book.signs, places)
            if naive.is_met(wish, naive.lot(book, tree))])


class GrowthTest(CallCase):
    def check(self, book, wish):
        """Judge a growth, and let it grow."""
        found = growth(book, wish)
        self.assertIs(is_growth(book, wish, found), True)
        word, tree, more, outer = found
        sizes = []
        for _ in range(3):
            whole = filled(book.signs, outer, tree)
            self.assertTrue(naive.is_met(wish, naive.lot(book, whole)), (book.rules, wish, found))
            sizes.append(size(book.signs, whole))
            tree = filled(book.signs, more, tree) if word == "deep" else (*tree, *more)
        self.assertTrue(sizes[0] < sizes[1] < sizes[2])
        return found

    def test_growths(self):
        for book, wish in [(BOOK, "even"), (BOOK, "wide"), (BOOK, ("not", "leaf")), (RING, "k"), (RING, "top"), (WIDE, "k"),
                           (WIDE, "deep"), (SIX, "k"), (TOP, "top"), (TOP, ("and", "top", "deep"))]:
            self.check(book, wish)

    def test_finite(self):
        for book, wish in [(BOOK, "leaf"), (BOOK, "nokind"), (BOUNDED, "quad"), (WIDE, "leaf")]:
            self.assertIsNone(growth(book, wish))

    def test_wide_only_by_six_brothers_at_once(self):
        found = self.check(SIX, "k")
        self.assertEqual((found[0], len(found[2])), ("wide", 6))
        tree = ("f", *[A] * 6)
        self.assertIs(is_growth(SIX, "k", ("wide", tree, [A] * 6, None)), True)
        for many in (1, 2, 3, 4, 5, 7):
            self.assertIs(is_growth(SIX, "k", ("wide", tree, [A] * many, None)), False)

    def test_as_defined(self):
        source = random.Random(53)
        words = set()
        for book in naive.random_books(53, 150) + naive.random_books(54, 30, kinds="xyz", bound=1, most=30):
            wish = naive.random_wish(source, ["x", "y", "z"])
            if not is_finite(book, wish):
                words.add(self.check(book, wish)[0])
        self.assertIn("deep", words)

    def test_flat_books(self):
        source = random.Random(55)
        for _ in range(30):
            asks = [naive.random_ask(source, ["leaf"], 3) for _ in range(source.randint(0, 2))]
            book = Book(["a", "f"], flat(*asks) + only("top", "a", "k", 1, 2))
            for wish in ("k", "top"):
                if not is_finite(book, wish):
                    self.assertEqual(self.check(book, wish)[0], "wide")


class IsGrowthTest(CallCase):
    def test_deep(self):
        even = ("deep", F, ("f", None), None)
        for thing, expected in [
            (even, True), (("deep", F, ("f", None, ("f", A)), None), True), (("deep", F, None, None), False),
            (("deep", F, F, None), False), (("deep", F, ("z", None), None), False), (("deep", F, ("f", [None]), None), False),
            (("deep", A, ("f", None), None), False), (("deep", F, ("a", None), None), False),
            (("deep", F, ("f", None, None), None), False), (("deep", ("f", F, A), ("f", None), None), False),
            (("deep", F, ("f", None), F), False), (("deep", F, ("f", None), ("a", None)), False),
            (("deep", F, ("f", None), ("f", None)), True), (("deep", F, ("f", None), ("f", None, None)), False),
            (("deep", ("f", F, A), ("f", None, None, A), ("f", None, None)), True),
            (("deep", (), ("f", None), None), False), (("deep", None, ("f", None), None), False),
        ]:
            self.assertIs(is_growth(BOOK, "even", thing), expected, thing)

    def test_frames_with_several_places(self):
        # Two of them are brothers of no kind, as is the tree that they make.
        none = ("f", F, A)
        self.assertIs(is_growth(BOOK, ("not", "even"), ("deep", none, ("f", None, None, A), None)), True)
        self.assertIs(is_growth(BOOK, "even", ("deep", none, ("f", None, None, A), ("f", None, None, None))), True)
        self.assertIs(is_growth(BOOK, "even", ("deep", none, ("f", None, None), ("f", None))), False)

    def test_wide(self):
        tree = ("f", A, A, A, A)
        for thing, expected in [
            (("wide", tree, [B, B], None), True), (("wide", tree, [A, B, B, A], None), True), (("wide", tree, [B], None), False),
            (("wide", tree, [], None), False), (("wide", tree, (B, B), None), False), (("wide", tree, [B, None], None), False),
            (("wide", tree, [F, F], None), False), (("wide", ("f", A, A, A), [B, B], None), False),
            (("wide", tree, [B, B], ("f", None)), False), (("wide", tree, [B, B], ("f", A, A, None, A)), True),
            (("wide", tree, [B, B], ("f", None, None, A, A, A)), True), (("wide", tree, [B, B], tree), False),
            (("wide", F, [A, B], None), False), (("wide", tree, [["f"]], None), False), (("wide", tree, B, None), False),
            (("wide", A, [B, B], ("f", A, A, None)), False), (("wide", tree, None, None), False),
            (("wide", tree, [B, B, ("z",)], None), False),
        ]:
            self.assertIs(is_growth(BOOK, "wide", thing), expected, thing)

    def test_the_wish_counts(self):
        thing = ("wide", ("f", A, A, A, A), [B, B], None)
        for wish, expected in [("even", True), (("and", "even", "wide"), True), ("leaf", False), (("not", "even"), False)]:
            self.assertIs(is_growth(BOOK, wish, thing), expected)

    def test_broods_are_those_of_the_document(self):
        # Whether there are one or two leaves makes no difference to any rule, but the broods differ.
        book = Book(["a"], [("x", "a", (("x", 0, 5, 1, 0), ("x", 0, None, 1, 0))), ("x", "a", ())])
        self.assertNotEqual(brood_of(book, [("x",)]), brood_of(book, [("x",)] * 2))
        self.assertIs(is_growth(book, "x", ("wide", ("a", A), [A], None)), False)
        self.assertIs(is_growth(book, "x", ("wide", ("a", *[A] * 6), [A], None)), True)

    def test_other_words_and_forms(self):
        for thing in [
            ("Deep", F, ("f", None), None), ("", F, ("f", None), None), (None, F, ("f", None), None), ("deep", F, ("f", None)),
            ("wide", F, ("f", None), None), ("deep", F, [A, A], None), ["deep", F, ("f", None), None], (), None, "deep",
            ("deep", F, ("f", None), None, None), {"deep": F}, (["deep"], F, ("f", None), None), (("deep",), F, ("f", None), None),
        ]:
            self.assertIs(is_growth(BOOK, "even", thing), False, thing)

    def test_any_object(self):
        self.assert_each_false(lambda thing: is_growth(BOOK, "even", thing), odd_objects())
        for thing in odd_objects():
            for at in range(4):
                for good in (("deep", F, ("f", None), None), ("wide", ("f", A, A, A, A), [B, B], None)):
                    wrong = (*good[:at], thing, *good[at + 1:])
                    told = is_growth(BOOK, ("or", "even", ("not", "even")), wrong)
                    self.assertIs(told, at == 3 and (thing is None or repr(thing).startswith("('a', ('a', ")))

    def test_greater_trees(self):
        wide = ("wide", ("f", *[A] * 4999), [A, B] * 1000, ("f", *[None] * 4999))
        self.assertIs(is_growth(BOOK, ("not", "leaf"), wide), True)
        tree = ("f", *[A] * 4998)
        self.assertEqual(lot_of(BOOK, tree), ("even", "wide"))
        frame = ("f", *[("f", None, None)] * 1666, A, A, A, A)
        self.assertIs(is_growth(BOOK, "wide", ("deep", tree, frame, None)), True)
        self.assertIs(is_growth(BOOK, "wide", ("deep", tree, (*frame, A), None)), False)

    def test_errors(self):
        for call in (is_finite, all_trees, growth):
            self.assert_raises_exactly(InvalidBook, call, SIGNS, ())
            self.assert_raises_exactly(InvalidWish, call, BOOK, ())
        self.assert_raises_exactly(InvalidBook, is_growth, SIGNS, (), None)
        self.assert_raises_exactly(InvalidWish, is_growth, BOOK, (), None)
        self.assert_raises_exactly(InvalidWish, all_trees, BOOK, ("not",))


if __name__ == "__main__":
    unittest.main()
