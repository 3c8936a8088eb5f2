"""Promise 19: books with a rule or an ask less, and what a wish does not need."""

import random
import time
import unittest

from broodcounts.beside import are_alike
from broodcounts.books import Book
from broodcounts.errors import InvalidBook, InvalidNumber, InvalidWish
from broodcounts.needless import needless_asks, needless_rules, without_ask, without_rule
from tests import naive
from tests.support import (
    BOOK, MANY_SIGNS, NO_BROTHERS, NO_WISHES, RULES, SIGNS, TWO_SIGNS, CallCase, odd_objects, snapshot,
)

NO_INDEXES = [-1, 4, 5, 10 ** 39, -(10 ** 39), True, False, None, "0", "", "1", [0], (0,), (), {}, {0: 0}, BOOK]
ALWAYS = (None, 0, None, 1, 0)
SOME = (None, 1, None, 1, 0)


def all_asks(book):
    return [(index, ask) for index, rule in enumerate(book.rules) for ask in range(len(rule[2]))]


class WithoutRuleTest(CallCase):
    def test_first_last_and_middle(self):
        for index, expected in [(0, RULES[1:]), (3, RULES[:3]), (1, [RULES[0], *RULES[2:]])]:
            book = without_rule(BOOK, index)
            self.assertEqual((type(book), book.signs, book.rules), (Book, SIGNS, expected))
        self.assertEqual(without_rule(Book(["b", "a"], [("x", "a", ())]), 0).rules, [])
        self.assertEqual(without_rule(Book(["b", "a"], [("x", "a", ())]), 0).signs, ["b", "a"])

    def test_of_two_same_rules_one_stays(self):
        book = Book(["a"], [("x", "a", ()), ("y", "a", ()), ("x", "a", ())])
        self.assertEqual(without_rule(book, 0).rules, [("y", "a", ()), ("x", "a", ())])
        self.assertEqual(without_rule(book, 2).rules, [("x", "a", ()), ("y", "a", ())])

    def test_a_kind_may_be_gone_with_its_rule(self):
        self.assertEqual(without_rule(BOOK, 3).kinds, ["even", "leaf"])
        self.assertEqual(without_rule(Book(["a"], [("x", "a", (("y", 0, 1, 1, 0),))]), 0).kinds, [])

    def test_the_book_stays(self):
        before = snapshot(BOOK)
        without_rule(BOOK, 2)
        self.assertEqual(snapshot(BOOK), before)

    def test_errors(self):
        self.assert_each_raises(InvalidNumber, lambda index: without_rule(BOOK, index), NO_INDEXES)
        self.assert_each_raises(InvalidNumber, lambda index: without_rule(Book(["a"], []), index), [0, *NO_INDEXES])
        self.assert_each_raises(InvalidBook, lambda index: without_rule(RULES, index), [0, *NO_INDEXES])


class WithoutAskTest(CallCase):
    def test_first_last_and_middle(self):
        asks = ((None, 1, 2, 1, 0), ("x", 0, 0, 1, 0), ("y", 3, None, 2, 1))
        book = Book(["a", "b"], [("x", "a", ()), ("y", "b", asks), ("x", "b", (ALWAYS,))])
        for ask, expected in [(0, asks[1:]), (1, asks[::2]), (2, asks[:2])]:
            changed = without_ask(book, 1, ask)
            self.assertEqual(changed.rules, [("x", "a", ()), ("y", "b", expected), ("x", "b", (ALWAYS,))])
            self.assertEqual(changed.signs, ["a", "b"])
        self.assertEqual(without_ask(book, 2, 0).rules[2], ("x", "b", ()))

    def test_of_two_same_asks_one_stays(self):
        book = Book(["a"], [("x", "a", (SOME, ALWAYS, SOME))])
        self.assertEqual(without_ask(book, 0, 0).rules, [("x", "a", (ALWAYS, SOME))])
        self.assertEqual(without_ask(book, 0, 2).rules, [("x", "a", (SOME, ALWAYS))])

    def test_the_book_stays(self):
        before = snapshot(BOOK)
        self.assertEqual(without_ask(BOOK, 2, 1).kinds, BOOK.kinds)
        self.assertEqual(snapshot(BOOK), before)

    def test_errors(self):
        self.assert_each_raises(InvalidNumber, lambda index: without_ask(BOOK, index, 0), NO_INDEXES)
        self.assert_each_raises(InvalidNumber, lambda ask: without_ask(BOOK, 2, ask), [2, *NO_INDEXES])
        self.assert_each_raises(InvalidNumber, lambda ask: without_ask(BOOK, 0, ask), [1, *NO_INDEXES])
        self.assert_each_raises(InvalidNumber, lambda ask: without_ask(Book(["a"], [("x", "a", ())]), 0, ask),
                                [0, *NO_INDEXES])
        self.assert_each_raises(InvalidNumber, lambda index: without_ask(Book(["a"], []), index, 0), [0, *NO_INDEXES])
        self.assert_each_raises(InvalidNumber, lambda thing: without_ask(BOOK, thing, thing), NO_INDEXES)
        self.assert_each_raises(InvalidBook, lambda thing: without_ask(None, thing, thing), NO_INDEXES)


class NeedlessTest(CallCase):
    def check(self, book, wish, rules, asks):
        self.assertEqual(needless_rules(book, wish), rules)
        self.assertEqual(needless_asks(book, wish), asks)

    def check_by_alike(self, book, wish):
        """Compare with whether the wish is alike in the book with the rule or ask and the one without it."""
        self.check(
            book, wish,
            [index for index in range(len(book)) if are_alike(book, wish, without_rule(book, index), wish)],
            [pair for pair in all_asks(book) if are_alike(without_ask(book, *pair), wish, book, wish)])

    def test_by_hand(self):
        self.check(BOOK, "leaf", [2, 3], [(2, 0), (2, 1), (3, 0)])
        self.check(BOOK, "even", [3], [(3, 0)])
        self.check(BOOK, "wide", [2], [(2, 0), (2, 1)])
        self.check(BOOK, ("or", "even", "wide"), [], [])
        self.check(Book(["a"], []), "x", [], [])

    def test_a_rule_that_stands_twice(self):
        book = Book(["a", "b"], [("x", "a", (NO_BROTHERS,)), ("x", "b", ()), ("x", "a", (NO_BROTHERS,))])
        self.check(book, "x", [0, 2], [])
        self.check(Book(["a"], [("x", "a", ())] * 2), "x", [0, 1], [])

    def test_one_rule_two_hundred_times(self):
        rule = ("even", "f", (("leaf", 0, None, 2, 0), ("even", 0, 1, 1, 0)))
        book = Book(SIGNS, RULES[:2] + [rule] * 198)
        self.check(book, "even", list(range(2, 200)), [])
        self.check(book, "leaf", list(range(2, 200)), [pair for pair in all_asks(book) if pair[0] > 1])

    def test_rules_that_hold_where_no_tree_is(self):
        book = Book(["a"], [
            ("x", "a", (NO_BROTHERS,)), ("x", "a", ((None, 1, 1, 1, 0), (None, 2, 2, 1, 0))),
            ("x", "a", (("y", 1, None, 1, 0),)), ("x", "a", (("x", 2, None, 1, 0), (None, 0, 1, 1, 0))),
            ("y", "a", (("y", 1, None, 1, 0),)),
        ])
        self.check(book, "x", [1, 2, 3, 4], [])
        self.check(book, "y", [0, 1, 2, 3, 4], [(0, 0), (1, 0), (1, 1), (2, 0), (3, 0), (3, 1)])

    def test_kinds_that_named_kinds_ask_for(self):
        book = Book(["a", "b"], [
            ("z", "b", (("y", 1, None, 1, 0),)), ("y", "b", (("x", 1, None, 1, 0),)), ("x", "a", (NO_BROTHERS,)),
            ("w", "a", (("z", 1, None, 1, 0),)),
        ])
        self.check(book, "z", [3], [(3, 0)])
        self.check(book, "y", [0, 3], [(0, 0), (3, 0)])
        self.check(book, "x", [0, 1, 3], [(0, 0), (1, 0), (3, 0)])
        self.check(book, "w", [], [])

    def test_wishes_of_no_trees_and_of_all(self):
        book = Book(["a", "b"], [("x", "a", (SOME,)), ("x", "a", (NO_BROTHERS,)), ("x", "b", ()), ("y", "b", (SOME,))])
        every, asks = [0, 1, 2, 3], [(0, 0), (1, 0), (3, 0)]
        for wish in ["z", ("not", "z"), ("or", "y", ("not", "y")), ("and", "x", ("not", "x")), ("and", "z", "x")]:
            self.check(book, wish, every, asks)
        self.check(book, "x", [3], asks)
        self.check(book, ("not", "x"), [3], asks)
        self.check(book, ("and", "x", "y"), [0, 1], [(0, 0), (1, 0)])
        self.check(book, ("or", "x", "y"), [3], asks)

    def test_a_kind_that_is_gone_with_its_rule(self):
        book = Book(["a"], [("x", "a", (("y", 1, None, 1, 0),)), ("z", "a", (("y", 0, 0, 1, 0),))])
        self.check(book, "x", [0, 1], [(1, 0)])
        self.check(book, "z", [0], [(0, 0), (1, 0)])

    def test_asks_that_always_hold(self):
        book = Book(["a"], [("x", "a", (ALWAYS, ("x", 0, None, 1, 0), SOME, ("y", 0, None, 1, 0)))])
        self.check(book, "x", [], [(0, 0), (0, 1), (0, 3)])
        # There is no tree of two brothers of y, and never an odd number of z.
        book = Book(["a"], [("x", "a", (("y", 0, 1, 1, 0), ("z", 0, None, 2, 0), SOME)),
                            ("y", "a", (("y", 1, None, 1, 0),)), ("z", "a", (("z", 1, 1, 1, 0),))])
        self.check(book, "x", [1, 2], [(0, 0), (0, 1)])

    def test_asks_that_never_hold(self):
        book = Book(["a"], [("x", "a", (("y", 1, None, 1, 0), SOME)), ("x", "a", (SOME, (None, 2, None, 1, 0)))])
        self.check(book, "x", [0], [(0, 1), (1, 0)])
        both = Book(["a"], [("x", "a", ((None, 0, None, 2, 0), (None, 0, None, 2, 1)))])
        self.check(both, "x", [0], [])
        self.check(Book(["a"], [("x", "a", (("y", 1, None, 1, 0), ("z", 1, None, 1, 0)))]), "x", [0], [(0, 0), (0, 1)])

    def test_asks_that_hold_wherever_the_others_do(self):
        book = Book(["a"], [("x", "a", ((None, 2, None, 1, 0), SOME, ("x", 1, None, 1, 0)))])
        self.check(book, "x", [0], [(0, 0), (0, 1)])
        book = Book(["a"], [("x", "a", ((None, 2, None, 1, 0), SOME)), ("y", "a", (("x", 1, 1, 1, 0), SOME))])
        self.check(book, "y", [], [(0, 1), (1, 1)])
        twice = Book(["a"], [("x", "a", (SOME, SOME, SOME))])
        self.check(twice, "x", [], [(0, 0), (0, 1), (0, 2)])

    def test_what_cannot_be_seen_from_the_wish(self):
        # Who is x and who is y does not matter: each is one of both, and only both together are asked for.
        book = Book(["a", "b"], [
            ("x", "a", ()), ("y", "b", ()), ("z", "a", (("x", 1, None, 1, 0),)), ("z", "a", (("y", 1, None, 1, 0),)),
            ("y", "a", ()),
        ])
        self.check(book, "z", [0, 2, 4], [])
        self.check_by_alike(book, ("or", "z", ("and", "x", "y")))

    def test_lots_that_the_book_does_not_have(self):
        # Each tree is y by three rules: without one of them some tree is none.
        asks = [("x", "a", (NO_BROTHERS,)), ("y", "a", (NO_BROTHERS,)), ("y", "a", ((None, 1, 1, 1, 0),)),
                ("y", "a", ((None, 2, None, 1, 0),))]
        book = Book(["a"], asks + [("z", "a", (("y", 1, None, 1, 0),))])
        self.check(book, "z", [0], [(0, 0), (1, 0), (2, 0), (3, 0)])
        free = Book(["a"], asks + [("z", "a", (("y", 1, None, 1, 0),)), ("z", "a", (("y", 0, 0, 1, 0),))])
        self.check(free, "z", [0, 1, 2, 3], [(0, 0), (1, 0), (2, 0), (3, 0), (4, 0), (5, 0)])

    def test_lots_and_broods_that_only_the_changed_book_has(self):
        for signs, rules, wish, told in [
            ("a", [("y", "a", ()), ("x", "a", (("x", 1, 1, 1, 0),))], ("or", "y", "x"), ([1], [(1, 0)])),
            ("a", [("x", "a", (("x", 0, 0, 3, 1),)), ("y", "a", (("x", 0, 0, 1, 0),))], "y", ([0], [(1, 0)])),
            ("a", [("x", "a", ()), ("y", "a", (("x", 1, 1, 2, 1), (None, 1, None, 3, 2)))], "y", ([0, 1], [])),
            ("ab", [("x", "b", (SOME,)), ("y", "b", (("y", 0, 0, 1, 0),))], ("or", "y", "x"), ([], [(0, 0), (1, 0)])),
            ("ab", [("y", "b", (("x", 0, None, 3, 0),)), ("x", "b", (("x", 0, None, 3, 1),))], ("or", "x", "y"),
             ([1], [(0, 0), (1, 0)])),
            ("a", [("y", "a", (("x", 0, 1, 3, 0),)), ("x", "a", (("x", 1, None, 1, 0), ("y", 0, None, 3, 1)))],
             ("or", "x", "y"), ([1], [(0, 0), (1, 1)])),
            ("ab", [("x", "a", ((None, 1, 1, 1, 0),)), ("y", "b", (SOME,)), ("y", "a", (("x", 1, 1, 1, 0),))],
             ("and", "y", "x"), ([1], [(1, 0)])),
            ("ab", [("x", "a", (("y", 1, None, 1, 0),)), ("y", "a", (ALWAYS, SOME)), ("x", "b", ())],
             ("or", ("not", "x"), "y"), ([0, 1], [(1, 0), (1, 1)])),
        ]:
            book = Book(list(signs), rules)
            self.check(book, wish, *told)
            self.check_by_alike(book, wish)

    def test_as_told_by_alike_books(self):
        source = random.Random(111)
        told = set()
        for book in naive.random_books(111, 250) + naive.random_books(112, 60, kinds="xyz", bound=1, most=60):
            for wish in ("x", naive.random_wish(source, ["x", "y", "z"])):
                self.check_by_alike(book, wish)
            told.add((bool(needless_rules(book, "x")), bool(needless_asks(book, "x"))))
        self.assertEqual(len(told), 4)

    def test_as_defined(self):
        source = random.Random(113)
        for book in naive.random_books(113, 60, bound=1, most=30):
            wish = naive.random_wish(source, ["x", "y"])
            for index in range(len(book)):
                self.assertIs(index in needless_rules(book, wish), same_trees(book, without_rule(book, index), wish))
            for pair in all_asks(book):
                self.assertIs(pair in needless_asks(book, wish), same_trees(book, without_ask(book, *pair), wish))

    def test_both_together_may_have_many_lots_and_broods(self):
        for book in (MANY_SIGNS, TWO_SIGNS):
            begun = time.perf_counter()
            needed = [index for index in range(len(book)) if index not in needless_rules(book, ("and", "x", "y"))]
            self.assertTrue(needed)
            needless_asks(book, ("or", "z", ("and", "x", "y")))
            self.assertLess(time.perf_counter() - begun, 1)

    def test_the_book_stays_and_tells_the_same_again(self):
        book = Book(SIGNS, RULES)
        for wish in ("leaf", "wide", ("not", "leaf"), "leaf", "wide"):
            self.assertEqual(needless_rules(book, wish), needless_rules(Book(SIGNS, RULES), wish))
            self.assertEqual(needless_asks(book, wish), needless_asks(Book(SIGNS, RULES), wish))
        self.assertEqual(snapshot(book), snapshot(BOOK))

    def test_errors(self):
        for call in (needless_rules, needless_asks):
            self.assert_each_raises(InvalidWish, lambda wish: call(BOOK, wish), NO_WISHES)
            self.assert_each_raises(InvalidBook, lambda wish: call(RULES, wish), NO_WISHES)
            self.assert_each_raises(InvalidBook, lambda thing: call(thing, "x"),
                                    [thing for thing in odd_objects() if not isinstance(thing, Book)])


def same_trees(one, other, wish):
    """Whether a wish has the same trees by two books with the same signs, by all lots of both together."""
    def renamed(book, letter):
        return [(letter + kind, sign, tuple((ask[0] and letter + ask[0], *ask[1:]) for ask in asks))
                for kind, sign, asks in book.rules]

    def kinds(lot, letter):
        return [kind[1:] for kind in lot if kind[0] == letter]

    lots, _ = naive.lots_and_broods(Book(one.signs, renamed(one, "p") + renamed(other, "q")))
    return all(naive.is_met(wish, kinds(lot, "p")) == naive.is_met(wish, kinds(lot, "q")) for lot in lots)


class TimeTest(CallCase):
    def check(self, book, wish, seconds):
        for call in (needless_rules, needless_asks):
            begun = time.perf_counter()
            call(Book(book.signs, book.rules), wish)
            self.assertLess(time.perf_counter() - begun, seconds)

    def test_two_hundred_rules_at_the_bounds(self):
        source = random.Random(114)
        for signs in (["a"], ["a", "b"], list("abcdefgh")):
            rules = [(source.choice("xyz"), source.choice(signs),
                      tuple(naive.random_ask(source, "xyz", 2) for _ in range(3))) for _ in range(200)]
            for wish in ("x", ("and", "x", ("not", "y")), ("or", "x", ("and", "y", "z"))):
                self.check(Book(signs, rules), wish, 1)

    def test_rules_each_of_which_is_needed_somewhere(self):
        numbers = [(number, number, 1, 0) for number in range(5)] + [(5, None, 2, 0), (5, None, 2, 1)]
        rules = [("y", sign, (("x", *one), (None, *other))) for sign in "ab" for one in numbers for other in numbers]
        book = Book(["a", "b"], rules + [("x", "a", (("x", 0, None, 2, 0),)), ("z", "a", (("y", 1, None, 2, 1),)),
                                         ("z", "a", (("y", 0, None, 2, 0),))])
        for wish in ("x", "y", "z", ("and", "z", "y")):
            self.check(book, wish, 1)

    def test_many_small_books(self):
        books = naive.random_books(115, 300)
        begun = time.perf_counter()
        for book in books:
            needless_rules(book, "x")
            needless_asks(book, "x")
        self.assertLess(time.perf_counter() - begun, 300 * 0.005)


if __name__ == "__main__":
    unittest.main()
