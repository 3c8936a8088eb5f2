"""Promise 21: numbers of brothers that are met, and rules that never are."""

import random
import time
import unittest

from broodcounts.books import Book
from broodcounts.errors import InvalidBook, InvalidKind, InvalidWish, UnknownSign
from broodcounts.met import never_met, numbers_met
from broodcounts.trees import trees_of_size
from tests import naive
from tests.support import BOOK, MANY_SIGNS, NO_BROTHERS, NO_WISHES, RULES, SIGNS, TWO_SIGNS, CallCase, snapshot

ALL = list(range(13))
NO_KINDS = ["", "abcdefghi", "A", "Leaf", "a b", "a1", True, False, 0, 3, ("leaf",), ["leaf"], [], (), {}, BOOK]
NO_SIGNS = ["z", "F", "", "leaf", None, True, 0, ("f",), ["f"], {"f": "f"}, SIGNS, BOOK]


class NumbersMetTest(CallCase):
    def test_kinds_of_the_book(self):
        for wish, sign, kind, expected in [
            ("even", "f", "leaf", ALL[::2]), ("even", "f", "even", [0, 1]), ("even", "f", "wide", ALL),
            ("wide", "f", "leaf", ALL[3:]), ("wide", "f", "even", ALL), (("and", "even", "wide"), "f", "leaf", ALL[4::2]),
            (("not", "even"), "f", "leaf", ALL), (("not", ("or", "even", "wide")), "f", "leaf", [0, 1, 2]),
            ("leaf", "a", "leaf", [0]), ("leaf", "f", "leaf", []), (("not", "leaf"), "a", "leaf", ALL),
            ("leaf", "b", "wide", [0]), ("even", "a", "leaf", []),
        ]:
            self.assertEqual(numbers_met(BOOK, wish, sign, kind), expected, (wish, sign, kind))

    def test_all_brothers(self):
        for wish, sign, expected in [
            ("even", "f", ALL), ("wide", "f", ALL[3:]), ("leaf", "a", [0]), ("leaf", "f", []),
            (("not", "leaf"), "b", ALL[1:]), (("not", "nokind"), "f", ALL), ("nokind", "f", []),
        ]:
            self.assertEqual(numbers_met(BOOK, wish, sign, None), expected)

    def test_names_that_are_no_kind(self):
        for wish, sign, expected in [("even", "f", [0]), ("even", "a", []), ("leaf", "a", [0]), ("nokind", "f", []),
                                     (("not", "nokind"), "b", [0]), (("and", "leaf", "even"), "f", [])]:
            self.assertEqual(numbers_met(BOOK, wish, sign, "nokind"), expected)
        self.assertEqual(numbers_met(Book(["a"], []), ("not", "x"), "a", "x"), [0])
        self.assertEqual(numbers_met(Book(["a"], []), ("not", "x"), "a", None), ALL)
        self.assertEqual(numbers_met(Book(["a"], []), "x", "a", "x"), [])

    def test_kinds_that_are_asked_for_and_no_tree_has(self):
        book = Book(["a"], [("x", "a", (("y", 0, None, 2, 0),))])
        self.assertEqual(numbers_met(book, "x", "a", "y"), [0])
        self.assertEqual(numbers_met(book, "x", "a", "x"), ALL)

    def test_the_kind_that_is_wished(self):
        book = Book(["a", "b"], [("x", "a", (("x", 0, None, 3, 2),)), ("x", "b", (NO_BROTHERS,))])
        self.assertEqual(numbers_met(book, "x", "a", "x"), [2, 5, 8, 11])
        self.assertEqual(numbers_met(book, ("not", "x"), "a", "x"), [0, 1, 3, 4, 6, 7, 9, 10, 12])
        self.assertEqual(numbers_met(book, "x", "b", "x"), [0])

    def test_each_remainder(self):
        for step in (1, 2, 3):
            for rest in range(step):
                for kind in ("x", None):
                    book = Book(["a"], [("x", "a", ()), ("y", "a", ((kind, 0, None, step, rest),))])
                    expected = [number for number in ALL if number % step == rest]
                    self.assertEqual(numbers_met(book, "y", "a", kind), expected)
                    self.assertEqual(numbers_met(book, ("not", "y"), "a", "x"), [n for n in ALL if n not in expected])

    def test_remainders_by_six(self):
        book = Book(["a"], [("x", "a", ((None, 0, None, 2, 1), (None, 0, None, 3, 1)))])
        self.assertEqual(numbers_met(book, "x", "a", None), [1, 7])

    def test_beyond_the_cap(self):
        book = Book(["a"], [("x", "a", ((None, 2, None, 1, 0),)), ("y", "a", ((None, 5, None, 2, 0),)),
                            ("z", "a", ((None, 5, 5, 1, 0),))])
        self.assertEqual(numbers_met(book, "x", "a", None), ALL[2:])
        self.assertEqual(numbers_met(book, "y", "a", None), [6, 8, 10, 12])
        self.assertEqual(numbers_met(book, "z", "a", None), [5])
        self.assertEqual(numbers_met(book, ("not", "x"), "a", None), [0, 1])

    def test_numbers_that_only_great_trees_have(self):
        book = Book(["a", "b"], [("x", "a", ((None, 5, None, 1, 0),)), ("y", "a", (("x", 5, 5, 1, 0),)),
                                 ("z", "b", (("y", 2, 2, 1, 0),))])
        self.assertEqual(numbers_met(book, "z", "b", "y"), [2])
        self.assertEqual(numbers_met(book, "z", "b", "x"), ALL[2:])
        self.assertEqual(numbers_met(book, "y", "a", "y"), ALL[:6])
        self.assertEqual(numbers_met(book, ("and", "y", ("not", "x")), "a", "y"), [])

    def test_kinds_bound_to_one_another(self):
        # Each x is a y, too: so there are at least as many brothers of y as of x.
        book = Book(["a", "b"], [("x", "a", ()), ("y", "a", ()), ("y", "b", ()),
                                 ("z", "a", (("x", 3, None, 1, 0), ("y", 0, 4, 1, 0)))])
        self.assertEqual(numbers_met(book, "z", "a", "y"), [3, 4])
        self.assertEqual(numbers_met(book, "z", "a", "x"), [3, 4])
        self.assertEqual(numbers_met(book, "z", "a", None), [3, 4])

    def test_as_defined(self):
        source = random.Random(131)
        for book in naive.random_books(131, 120, bound=2, most=60):
            wish, sign = naive.random_wish(source, ["x", "y"]), source.choice(book.signs)
            for kind in ("x", "y", None, "nokind"):
                self.assertEqual(numbers_met(book, wish, sign, kind), met_numbers(book, wish, sign, kind))

    def test_small_trees_are_met(self):
        source = random.Random(132)
        for book in naive.random_books(132, 40):
            wish = naive.random_wish(source, ["x", "y"])
            for tree in [tree for places in range(1, 5) for tree in trees_of_size(book.signs, places)]:
                if naive.is_met(wish, naive.lot(book, tree)):
                    for kind in ("x", "y", None):
                        many = naive.number_of([naive.lot(book, brother) for brother in tree[1:]], kind)
                        self.assertIn(many, numbers_met(book, wish, tree[0], kind))

    def test_errors(self):
        self.assert_each_raises(InvalidKind, lambda kind: numbers_met(BOOK, "even", "f", kind), NO_KINDS)
        self.assert_each_raises(UnknownSign, lambda sign: numbers_met(BOOK, "even", sign, "leaf"), NO_SIGNS)
        self.assert_each_raises(UnknownSign, lambda sign: numbers_met(BOOK, "even", sign, sign), NO_SIGNS)
        self.assert_each_raises(InvalidWish, lambda wish: numbers_met(BOOK, wish, wish, wish), NO_WISHES)
        self.assert_each_raises(InvalidBook, lambda wish: numbers_met(None, wish, wish, wish), NO_WISHES)


def met_numbers(book, wish, sign, kind):
    """All numbers that are met, by lists of lots with all numbers and broods."""
    there, _ = naive.lots_and_broods(book)
    lists = {(0, naive.brood(book, [])): []}
    waiting = [[]]
    while waiting:
        row = waiting.pop()
        for lot in there:
            longer = [*row, lot]
            key = (naive.number_of(longer, kind), naive.brood(book, longer))
            if key[0] <= 12 and key not in lists:
                lists[key] = longer
                waiting.append(longer)
    return sorted({key[0] for key, row in lists.items() if naive.is_met(wish, naive.made_lot(book, sign, row))})


class NeverMetTest(CallCase):
    def test_by_hand(self):
        for wish, expected in [("leaf", [2, 3]), ("even", []), ("wide", []), ("nokind", [0, 1, 2, 3]),
                               (("not", "nokind"), []), (("and", "leaf", "even"), [0, 1, 2, 3])]:
            self.assertEqual(never_met(BOOK, wish), expected)
        self.assertEqual(never_met(Book(["a"], []), "x"), [])
        self.assertEqual(never_met(Book(["a"], []), ("not", "x")), [])

    def test_rules_that_make_no_tree(self):
        book = Book(["a", "b"], [
            ("x", "a", ((None, 1, 1, 1, 0), (None, 2, 2, 1, 0))), ("x", "a", (("y", 1, None, 1, 0),)),
            ("x", "b", ((None, 0, None, 2, 0), (None, 0, None, 2, 1))), ("z", "b", ()),
        ])
        self.assertEqual(never_met(book, ("not", "x")), [0, 1, 2])
        self.assertEqual(never_met(book, "z"), [0, 1, 2])
        self.assertEqual(never_met(book, "x"), [0, 1, 2, 3])

    def test_rules_that_make_trees_of_other_wishes_only(self):
        book = Book(["a", "b"], [("x", "a", (NO_BROTHERS,)), ("y", "b", ()), ("z", "a", (NO_BROTHERS,)),
                                 ("w", "a", ((None, 1, None, 1, 0),))])
        self.assertEqual(never_met(book, "x"), [1, 3])
        self.assertEqual(never_met(book, "y"), [])
        self.assertEqual(never_met(book, ("and", "x", "y")), [0, 1, 2, 3])

    def test_rules_within_trees_of_the_wish_only(self):
        book = Book(["a", "b", "c"], [
            ("x", "a", (NO_BROTHERS,)), ("y", "b", (("x", 1, 1, 1, 0), (None, 1, 1, 1, 0))),
            ("z", "c", (("y", 1, 1, 1, 0), (None, 1, 1, 1, 0))), ("w", "c", (NO_BROTHERS,)), ("v", "a", ((None, 1, None, 1, 0),)),
        ])
        self.assertEqual(never_met(book, "z"), [3, 4])
        self.assertEqual(never_met(book, "y"), [2, 3, 4])
        self.assertEqual(never_met(book, "x"), [1, 2, 3, 4])
        self.assertEqual(never_met(book, "v"), [])

    def test_a_rule_of_the_same_lot_may_be_met_elsewhere(self):
        # Both rules make x and nothing else: what matters is the lot, of which trees stand in y.
        book = Book(["a", "b"], [("x", "a", (NO_BROTHERS,)), ("x", "a", ((None, 3, None, 1, 0),)),
                                 ("y", "b", (("x", 1, None, 1, 0),))])
        self.assertEqual(never_met(book, "y"), [])
        self.assertEqual(never_met(book, ("and", "x", "y")), [0, 1, 2])

    def test_other_rules_that_make_the_same_trees(self):
        book = Book(["a"], [("x", "a", ()), ("x", "a", (NO_BROTHERS,)), ("y", "a", (NO_BROTHERS,)), ("x", "a", ())])
        self.assertEqual(never_met(book, "y"), [])
        self.assertEqual(never_met(book, ("not", "x")), [0, 1, 2, 3])

    def test_rules_that_stand_twice(self):
        book = Book(SIGNS, RULES + RULES)
        self.assertEqual(never_met(book, "leaf"), [2, 3, 6, 7])
        self.assertEqual(never_met(Book(SIGNS, [RULES[3]] * 200), "leaf"), list(range(200)))

    def test_as_defined(self):
        source = random.Random(133)
        told = set()
        for book in naive.random_books(133, 200, most=80):
            wish = naive.random_wish(source, ["x", "y"])
            expected = rules_never_met(book, wish)
            self.assertEqual(never_met(book, wish), expected)
            told.add((bool(expected), len(expected) == len(book)))
        self.assertEqual(len(told), 4)

    def test_errors(self):
        self.assert_each_raises(InvalidWish, lambda wish: never_met(BOOK, wish), NO_WISHES)
        self.assert_each_raises(InvalidBook, lambda wish: never_met(None, wish), NO_WISHES)


def rules_never_met(book, wish):
    """The rules that make no tree of a wish and none that stands in one, by all lots and lists of lots."""
    there, lists = naive.lots_and_broods(book)
    good = {lot for lot in there if naive.is_met(wish, lot)}
    while True:
        more = {lot for lot in there for row in lists.values() for sign in book.signs
                if naive.made_lot(book, sign, [*row, lot]) in good} | good
        if more == good:
            break
        good = more
    return [index for index, (_, sign, asks) in enumerate(book.rules) if not any(
        naive.made_lot(book, sign, row) in good and all(naive.fitted(ask, naive.number_of(row, ask[0])) for ask in asks)
        for row in lists.values())]


class BothTest(CallCase):
    def test_the_same_again_and_nothing_changed(self):
        book = Book(SIGNS, RULES)
        for wish in ["leaf", "wide", ("not", "leaf"), "leaf"] * 2:
            for told in (lambda: never_met(book, wish), lambda: numbers_met(book, wish, "f", "leaf")):
                first = told()
                expected = list(first)
                first.append(99)
                self.assertEqual(told(), expected)
        self.assertEqual(snapshot(book), snapshot(BOOK))

    def test_at_the_bounds(self):
        rules = Book(list("abcdefgh"), (MANY_SIGNS.rules * 20)[:200])
        for book in (MANY_SIGNS, TWO_SIGNS, rules):
            for wish in (("and", "x", ("not", "y")), "nokind"):
                for kind in ("x", None, "nokind"):
                    begun = time.perf_counter()
                    numbers_met(Book(book.signs, book.rules), wish, "b", kind)
                    never_met(Book(book.signs, book.rules), wish)
                    self.assertLess(time.perf_counter() - begun, 1)

    def test_many_small_ones(self):
        books = naive.random_books(134, 300)
        begun = time.perf_counter()
        for book in books:
            never_met(book, "x")
            numbers_met(book, "x", book.signs[0], "y")
        self.assertLess(time.perf_counter() - begun, 300 * 0.005)


if __name__ == "__main__":
    unittest.main()
