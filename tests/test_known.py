"""Promises 13 to 22 for books that are known: what they tell is worked out by hand."""

import unittest

from broodcounts.beside import are_alike, holds, parting
from broodcounts.books import Book
from broodcounts.counting import count
from broodcounts.endless import all_trees, is_finite
from broodcounts.made import least, least_size
from broodcounts.mending import least_added, least_taken
from broodcounts.met import never_met, numbers_met
from broodcounts.needless import needless_asks, needless_rules
from broodcounts.reader import Reader
from broodcounts.surroundings import are_kin, kin_classes
from broodcounts.tables import lots
from broodcounts.trees import size
from tests.support import CallCase

ALL = list(range(13))
A = ("a",)
NONE = (None, 0, 0, 1, 0)


class KnownTest(CallCase):
    def check_sizes(self, book, sizes):
        for wish, expected in sizes:
            self.assertEqual(least_size(book, wish), expected, wish)

    def check_needless(self, book, wish, rules, asks):
        self.assertEqual((needless_rules(book, wish), needless_asks(book, wish)), (rules, asks))

    def added(self, book, wish, tree):
        trees = least_added(book, wish, tree)
        return None if trees is None else sum(size(book.signs, part) for part in trees)

    def test_even_broods(self):
        book = Book(["a"], [("even", "a", ((None, 0, None, 2, 0),))])
        self.assertEqual(lots(book), [(), ("even",)])
        self.check_sizes(book, [("even", 1), (("not", "even"), 2), ("odd", None)])
        self.assertEqual([is_finite(book, wish) for wish in ("even", ("not", "even"), "odd")], [False, False, True])
        self.assertEqual([count(book, "even", places) for places in (1, 2, 3, 4, 5)], [1, 0, 1, 1, 4])
        self.assertEqual(kin_classes(book, "even"), [[()], [("even",)]])
        self.check_needless(book, "even", [], [])
        self.assertEqual([self.added(book, "even", ("a", *[A] * many)) for many in range(4)], [0, 1, 0, 1])
        self.assertEqual([len(least_taken(book, "even", ("a", *[A] * many))) for many in range(4)], [0, 1, 0, 1])
        self.assertEqual(numbers_met(book, "even", "a", None), ALL[::2])
        self.assertEqual(numbers_met(book, ("not", "even"), "a", "even"), ALL)
        self.assertEqual(never_met(book, ("not", "even")), [])
        odd = Book(["a"], [("odd", "a", ((None, 0, None, 2, 1),))])
        self.assertIs(are_alike(book, "even", odd, ("not", "odd")), True)
        self.assertEqual(parting(book, "even", odd, "odd"), A)

    def test_evenly_even(self):
        # Even are trees all of whose brothers are even and even in number.
        book = Book(["a"], [("even", "a", ((None, 0, None, 2, 0), ("odd", 0, 0, 1, 0))),
                            ("odd", "a", ((None, 0, None, 2, 1),)), ("odd", "a", (("odd", 1, None, 1, 0),))])
        self.assertEqual(lots(book), [("even",), ("odd",)])
        self.check_sizes(book, [("even", 1), ("odd", 2), (("not", "odd"), 1), (("and", "even", "odd"), None)])
        self.assertIs(are_alike(book, "even", book, ("not", "odd")), True)
        self.assertEqual(kin_classes(book, "even"), [[("even",)], [("odd",)]])
        self.check_needless(book, "odd", [0], [(0, 0), (0, 1)])
        self.check_needless(book, ("or", "odd", "even"), [], [(0, 0), (0, 1), (1, 0), (2, 0)])
        self.assertEqual(numbers_met(book, "even", "a", "odd"), [0])
        self.assertEqual(self.added(book, "even", ("a", ("a", A))), None)

    def test_pairs(self):
        # A pair has just two brothers, each of which is a leaf or a pair.
        book = Book(["a"], [("pair", "a", (("pair", 2, 2, 1, 0), (None, 2, 2, 1, 0))), ("pair", "a", (NONE,))])
        self.assertEqual(lots(book), [(), ("pair",)])
        self.check_sizes(book, [("pair", 1), (("not", "pair"), 2)])
        self.assertEqual([count(book, "pair", places) for places in range(1, 10)], [1, 0, 1, 0, 1, 0, 2, 0, 3])
        self.assertIs(is_finite(book, "pair"), False)
        self.assertEqual(kin_classes(book, "pair"), [[()], [("pair",)]])
        self.check_needless(book, "pair", [], [])
        self.assertEqual([self.added(book, "pair", ("a", *[A] * many)) for many in range(4)], [0, 1, 0, None])
        self.assertEqual(least_taken(book, "pair", ("a", ("a", A), A, A)), [0])
        self.assertEqual((numbers_met(book, "pair", "a", None), numbers_met(book, "pair", "a", "pair")), ([0, 2], [0, 2]))
        reader = Reader(book)
        for sign in "aaa":
            reader.begin(sign)
        self.assertEqual((reader.can_become("pair"), reader.must_become("pair")), (True, False))
        reader.close()
        reader.close()
        self.assertEqual((reader.can_become("pair"), reader.must_become(("not", "pair"))), (False, True))

    def test_no_two_alike(self):
        signs = ["a", "b", "f"]
        leaf = [("la", "a", (NONE,)), ("lb", "b", (NONE,))]
        book = Book(signs, leaf + [
            ("set", "f", (("la", 0, 1, 1, 0), ("lb", 0, 0, 1, 0), (None, 0, 1, 1, 0), ("set", 0, 0, 1, 0),
                          ("else", 0, 0, 1, 0))),
            ("set", "f", (("la", 0, 1, 1, 0), ("lb", 1, 1, 1, 0), ("set", 0, 0, 1, 0), ("else", 0, 0, 1, 0))),
            ("else", "a", ((None, 1, None, 1, 0),)), ("else", "b", ((None, 1, None, 1, 0),)),
            ("else", "f", (("else", 1, None, 1, 0),)), ("else", "f", (("set", 1, None, 1, 0),)),
            ("else", "f", (("la", 2, None, 1, 0),)), ("else", "f", (("lb", 2, None, 1, 0),)),
        ])
        self.assertEqual(lots(book), [("else",), ("la",), ("lb",), ("set",)])
        self.assertIs(is_finite(book, "set"), True)
        self.assertEqual(all_trees(book, "set"), [("f",), ("f", ("a",)), ("f", ("b",)), ("f", ("a",), ("b",))])
        self.assertIs(is_finite(book, "else"), False)
        self.check_sizes(book, [("set", 1), ("else", 2), (("and", "set", "else"), None)])
        self.assertEqual(numbers_met(book, "set", "f", None), [0, 1, 2])
        self.assertEqual(numbers_met(book, "set", "f", "la"), [0, 1])
        self.assertEqual(self.added(book, "set", ("f", ("a",), ("a",))), None)
        self.assertIn(least_taken(book, "set", ("f", ("a",), ("b",), ("a",))), [[0], [2]])
        self.assertEqual(least_taken(book, "set", ("f", ("f",), ("b",), ("a", ("a",)))), [0, 2])
        self.assertEqual(kin_classes(book, "set"), [[("else",)], [("la",)], [("lb",)], [("set",)]])
        self.assertEqual(kin_classes(book, ("or", "set", "else")), [[("else",), ("set",)], [("la",), ("lb",)]])
        self.assertIs(are_alike(book, "else", book, ("not", ("or", "set", ("or", "la", "lb")))), True)

    def test_remainders_by_three(self):
        rules = [(kind, "a", ((None, 0, None, 3, rest),)) for rest, kind in enumerate(("x", "y", "z"))]
        book = Book(["a"], rules)
        self.assertEqual(lots(book), [("x",), ("y",), ("z",)])
        self.check_sizes(book, [("x", 1), ("y", 2), ("z", 3), (("not", ("or", "x", "y")), 3)])
        self.assertEqual(numbers_met(book, "z", "a", None), [2, 5, 8, 11])
        self.assertEqual(numbers_met(book, "y", "a", "z"), ALL)
        self.assertEqual(kin_classes(book, "x"), [[("x",)], [("y",), ("z",)]])
        self.assertEqual(kin_classes(book, ("or", "x", "z")), [[("x",), ("z",)], [("y",)]])
        self.check_needless(book, "x", [1, 2], [(1, 0), (2, 0)])
        self.check_needless(book, ("or", "x", "z"), [1], [(1, 0)])
        self.assertEqual([self.added(book, "z", ("a", *[A] * many)) for many in range(6)], [2, 1, 0, 2, 1, 0])
        self.assertEqual(len(least_taken(book, "y", ("a", A, A, A))), 2)
        self.assertEqual([count(book, "y", places) for places in (1, 2, 3, 4)], [0, 1, 1, 2])
        self.assertIs(are_alike(book, "x", book, ("not", ("or", "y", "z"))), True)

    def test_brothers_by_three_of_one_kind(self):
        book = Book(["a", "b"], [("x", "a", (NONE,)), ("three", "b", (("x", 0, None, 3, 0), ("three", 0, None, 3, 0)))])
        self.check_sizes(book, [("x", 1), ("three", 1), (("not", ("or", "x", "three")), 2)])
        self.assertEqual(numbers_met(book, "three", "b", "x"), [0, 3, 6, 9, 12])
        self.assertEqual(numbers_met(book, "three", "b", None), ALL)
        self.assertEqual(self.added(book, "three", ("b", A, ("b",))), 4)
        self.assertEqual(least_added(book, "three", ("b", A)), [A, A])

    def test_all_trees(self):
        book = Book(["a", "b"], [("all", "a", ()), ("all", "b", ())])
        self.assertEqual(lots(book), [("all",)])
        self.check_sizes(book, [("all", 1), (("not", "all"), None)])
        self.assertEqual([is_finite(book, "all"), is_finite(book, ("not", "all"))], [False, True])
        self.assertEqual(kin_classes(book, "all"), [[("all",)]])
        self.assertIs(are_kin(book, "all", A, ("b", A)), True)
        self.check_needless(book, "all", [], [])
        self.check_needless(book, ("or", "all", ("not", "all")), [0, 1], [])
        self.assertIs(are_alike(book, "all", Book(["b", "a"], []), ("not", "k")), True)
        self.assertEqual((least_added(book, "all", A), least_taken(book, ("not", "all"), ("a", A))), ([], None))
        self.assertEqual((numbers_met(book, "all", "b", "all"), numbers_met(book, ("not", "all"), "a", None)), (ALL, []))

    def test_no_trees(self):
        book = Book(["a"], [("no", "a", ((None, 1, 1, 1, 0), (None, 0, 0, 1, 0))), ("no", "a", (("no", 1, None, 1, 0),))])
        self.assertEqual(lots(book), [()])
        self.assertEqual((least_size(book, "no"), least(book, "no"), is_finite(book, "no")), (None, None, True))
        self.assertEqual((all_trees(book, "no"), kin_classes(book, "no")), ([], [[()]]))
        self.check_needless(book, "no", [0, 1], [])
        self.check_needless(Book(["a"], book.rules[1:]), "no", [0], [])
        self.assertIs(holds(book, "no", book, "no"), True)
        self.assertIs(holds(book, "no", book, ("not", "no")), False)
        self.assertEqual((least_added(book, "no", A), least_taken(book, "no", ("a", A))), (None, None))
        self.assertEqual((numbers_met(book, "no", "a", None), numbers_met(book, ("not", "no"), "a", "no")), ([], [0]))
        self.assertEqual((never_met(book, "no"), never_met(book, ("not", "no"))), ([0, 1], [0, 1]))


if __name__ == "__main__":
    unittest.main()
