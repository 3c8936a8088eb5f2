"""Promises 4, 5 and 11: when a tree is of a kind, wishes, lots."""

import random
import unittest

from broodcounts.books import Book
from broodcounts.errors import InvalidBook, InvalidLot, InvalidTree, InvalidWish
from broodcounts.wishes import is_of, is_wish, is_wished, lot_of
from tests import naive
from tests.support import A, B, BOOK, NO_WISHES, SIGNS, CallCase, chain, nested, odd_objects

F = ("f",)


def one_ask(low, high, step=1, rest=0, kind="leaf"):
    """A book in which a tree with the sign f is of the kind k if one ask holds."""
    return Book(SIGNS, [("leaf", "a", ()), ("k", "f", ((kind, low, high, step, rest),))])


def numbers(book, brother=A, most=20):
    """The numbers of brothers, two others beside them, for which a tree is of the kind k."""
    return [number for number in range(most) if lot_of(book, ("f", B, *[brother] * number, B)) == ("k",)]


class IsWishTest(CallCase):
    def test_wishes(self):
        self.assert_each_true(is_wish, [
            "a", "z", "abcdefgh", "not", "and", "or", ("not", "a"), ("and", "a", "b"), ("or", "a", "a"),
            ("not", ("not", "a")), ("and", ("or", "a", "b"), ("not", "c")), ("not", "not"), ("and", "and", "and"),
            ("or", "or", "not"), ("not", ("not", "not")), ("and", "not", ("not", "or")),
            nested(59, lambda part: ("not", part or "a")),
        ])

    def test_no_wishes(self):
        self.assert_each_false(is_wish, NO_WISHES)

    def test_wrong_at_each_place(self):
        for thing in ("", "A", None, True, 1, [], (), ("a",), ["not", "a"], ("not",), ("and", "a"), "abcdefghi"):
            self.assert_each_false(is_wish, [
                ("not", thing), ("and", thing, "a"), ("and", "a", thing), ("or", ("not", "a"), ("not", thing)),
                ("or", "a", ("and", "b", ("or", "c", ("not", ("and", "d", thing))))),
                nested(40, lambda part: ("and", "a", part or thing)),
            ])

    def test_any_object(self):
        self.assert_each_false(is_wish, [thing for thing in odd_objects() if thing not in ("a", "abcdefgh")])
        self.assert_each_false(lambda thing: is_wish((thing, "a", "b")), odd_objects())


class IsWishedTest(CallCase):
    def test_names(self):
        self.assertIs(is_wished("x", ("x",)), True)
        self.assertIs(is_wished("x", ()), False)
        self.assertIs(is_wished("x", ("y",)), False)
        self.assertIs(is_wished("y", ("x", "y", "z")), True)
        self.assertIs(is_wished("not", ("and", "not")), True)
        self.assertIs(is_wished("or", ("and", "not")), False)

    def test_words(self):
        for has_x in (True, False):
            for has_y in (True, False):
                lot = ("x",) * has_x + ("y",) * has_y
                self.assertIs(is_wished(("not", "x"), lot), not has_x)
                self.assertIs(is_wished(("and", "x", "y"), lot), has_x and has_y)
                self.assertIs(is_wished(("or", "x", "y"), lot), has_x or has_y)
                self.assertIs(is_wished(("and", "x", ("not", "y")), lot), has_x and not has_y)
                self.assertIs(is_wished(("or", ("not", "x"), "y"), lot), has_y or not has_x)
                self.assertIs(is_wished(("not", ("and", ("or", "x", "y"), "y")), lot), not has_y)

    def test_words_as_names(self):
        self.assertIs(is_wished(("not", "not"), ("not",)), False)
        self.assertIs(is_wished(("and", "and", "or"), ("and", "or")), True)
        self.assertIs(is_wished(("or", "not", ("and", "and", "or")), ("and",)), False)

    def test_as_defined(self):
        source = random.Random(11)
        for _ in range(200):
            wish = naive.random_wish(source, "wxyz")
            lot = tuple(name for name in "vwxyz" if source.random() < 0.5)
            self.assertIs(is_wished(wish, lot), naive.is_met(wish, lot))

    def test_lots_of_any_names(self):
        self.assertIs(is_wished("b", ("a", "ab", "abcdefgh", "b", "ba")), True)

    def test_no_lots(self):
        self.assert_each_raises(InvalidLot, lambda lot: is_wished("x", lot), [
            [], ["x"], "x", None, {}, {"x": True}, ("y", "x"), ("x", "x"), ("x", "y", "y"), ("x", "z", "y"),
            ("",), ("X",), ("abcdefghi",), ("x", None), ("x", 1), (True,), (("x",),), (["x"],), ("x", ("y",)),
        ])

    def test_both_wrong(self):
        self.assert_each_raises(InvalidWish, lambda wish: is_wished(wish, ["x"]), NO_WISHES)


class AskTest(CallCase):
    def test_low(self):
        for low in range(6):
            self.assertEqual(numbers(one_ask(low, None)), list(range(low, 20)))

    def test_high(self):
        for high in range(6):
            self.assertEqual(numbers(one_ask(0, high)), list(range(high + 1)))

    def test_low_and_high(self):
        for low in range(6):
            for high in range(low, 6):
                self.assertEqual(numbers(one_ask(low, high)), list(range(low, high + 1)))

    def test_step_and_rest(self):
        for step in (1, 2, 3):
            for rest in range(step):
                expected = [number for number in range(20) if number % step == rest]
                self.assertEqual(numbers(one_ask(0, None, step, rest)), expected)
                self.assertEqual(numbers(one_ask(3, None, step, rest)), [row for row in expected if row >= 3])
                self.assertEqual(numbers(one_ask(2, 4, step, rest)), [row for row in expected if 2 <= row <= 4])

    def test_asks_that_no_number_fits(self):
        self.assertEqual(numbers(one_ask(3, 3, 2, 0)), [])
        self.assertEqual(numbers(one_ask(0, 1, 3, 2)), [])

    def test_all_brothers(self):
        self.assertEqual(numbers(one_ask(4, None, kind=None)), list(range(2, 20)))
        self.assertEqual(numbers(one_ask(0, 4, 2, 1, None)), [1])
        self.assertEqual(numbers(one_ask(0, None, 3, 0, None)), [1, 4, 7, 10, 13, 16, 19])

    def test_kinds_that_no_rule_makes(self):
        self.assertEqual(numbers(one_ask(0, None, kind="nokind")), list(range(20)))
        self.assertEqual(numbers(one_ask(0, 0, kind="nokind")), list(range(20)))
        self.assertEqual(numbers(one_ask(1, None, kind="nokind")), [])
        self.assertEqual(numbers(one_ask(0, None, 2, 1, "nokind")), [])

    def test_brothers_of_other_kinds_are_not_counted(self):
        self.assertEqual(numbers(one_ask(0, 0), brother=F), list(range(20)))
        self.assertEqual(numbers(one_ask(1, None), brother=("b", A)), [])

    def test_numbers_beyond_all_bounds(self):
        for number, expected in ((100, ()), (101, ("k",)), (103, ()), (107, ("k",))):
            self.assertEqual(lot_of(one_ask(5, None, 3, 2), ("f", *[A] * number)), expected)


class LotTest(CallCase):
    def test_rules_without_asks(self):
        book = Book(SIGNS, [("x", "a", ()), ("y", "b", ())])
        self.assertEqual([lot_of(book, tree) for tree in (A, ("a", F, B), B, F)], [("x",), ("x",), ("y",), ()])

    def test_books_without_rules(self):
        self.assertEqual(lot_of(Book(["a"], []), ("a", A)), ())

    def test_all_asks_of_a_rule_must_hold(self):
        book = Book(SIGNS, [("x", "a", ()), ("y", "b", ()), ("z", "f", (("x", 1, 1, 1, 0), ("y", 2, None, 1, 0)))])
        self.assertEqual(lot_of(book, ("f", A, B, B)), ("z",))
        for tree in (("f", A, B), ("f", B, B), ("f", A, A, B, B), F, ("f", ("f", A, B, B))):
            self.assertEqual(lot_of(book, tree), ())

    def test_one_rule_of_several_is_enough(self):
        book = Book(SIGNS, [("x", "a", ((None, 1, 1, 1, 0),)), ("x", "a", ((None, 3, 3, 1, 0),)), ("x", "b", ())])
        self.assertEqual([number for number in range(6) if lot_of(book, ("a", *[F] * number))], [1, 3])
        self.assertEqual(lot_of(book, ("b", F, F)), ("x",))

    def test_several_asks_of_one_kind(self):
        book = Book(SIGNS, [("x", "a", ((None, 0, None, 2, 1), (None, 0, None, 3, 2)))])
        self.assertEqual([number for number in range(30) if lot_of(book, ("a", *[F] * number))], [5, 11, 17, 23, 29])

    def test_kinds_ascend_however_rules_stand(self):
        book = Book(SIGNS, [("z", "a", ()), ("x", "a", ()), ("y", "a", ()), ("z", "a", ((None, 0, 0, 1, 0),))])
        self.assertEqual(lot_of(book, A), ("x", "y", "z"))

    def test_kinds_that_need_themselves(self):
        book = Book(SIGNS, [("x", "a", ((None, 0, 0, 1, 0),)), ("x", "f", (("x", 1, None, 1, 0),))])
        self.assertEqual([lot_of(book, chain(levels)) for levels in (1, 2, 39, 40)], [("x",)] * 4)
        self.assertEqual(lot_of(book, chain(40, "b")), ())

    def test_other_order_of_brothers(self):
        source = random.Random(3)
        for _ in range(50):
            brothers = [naive.random_tree(source, SIGNS, source.randint(1, 6)) for _ in range(4)]
            turned = source.sample(brothers, 4)
            self.assertEqual(lot_of(BOOK, ("f", *brothers)), lot_of(BOOK, ("f", *turned)))

    def test_as_defined(self):
        source = random.Random(4)
        for book in naive.random_books(4, 60, kinds="xyz", bound=5, most=10 ** 6):
            for _ in range(10):
                tree = naive.random_tree(source, book.signs, source.randint(1, 25))
                self.assertEqual(lot_of(book, tree), naive.lot(book, tree), (book.rules, tree))

    def test_wide_and_deep(self):
        wide = ("f", *[A] * 300, *[B] * 301, F, F)
        self.assertEqual(lot_of(BOOK, wide), ("wide",))
        self.assertEqual(lot_of(BOOK, ("f", *[A] * 4999)), ("wide",))
        self.assertEqual(lot_of(BOOK, ("f", *[A] * 4998)), ("even", "wide"))
        level = ("f", B)
        for _ in range(38):
            level = ("f", A, level, B)
        self.assertEqual(lot_of(BOOK, level), naive.lot(BOOK, level))

    def test_many_kinds(self):
        names = [first + second for first in "abcdefgh" for second in "abcdefghijkl"]
        rules = [("leaf", "a", ())] + [(name, "f", (("leaf", index % 6, None, 1, 0),))
                                       for index, name in enumerate(names)]
        expected = sorted(name for index, name in enumerate(names) if index % 6 <= 2)
        self.assertEqual(lot_of(Book(SIGNS, rules), ("f", A, A)), tuple(expected))

    def test_two_hundred_rules(self):
        rules = [("x", "f", ((None, 0, 5, 3, 1), (None, 2, 2, 1, 0)))] * 199 + [("x", "f", ((None, 5, 5, 1, 0),))]
        self.assertEqual([number for number in range(9) if lot_of(Book(SIGNS, rules), ("f", *[A] * number))], [5])

    def test_errors(self):
        self.assert_raises_exactly(InvalidBook, lot_of, None, None)
        self.assert_raises_exactly(InvalidTree, lot_of, Book(["a"], []), B)
        self.assert_raises_exactly(InvalidTree, lot_of, BOOK, ("f", A, None))


class IsOfTest(CallCase):
    def test_is_of(self):
        for wish, tree, expected in [
            ("leaf", A, True), ("leaf", F, False), ("even", F, True), (("not", "even"), F, False),
            (("and", "even", "wide"), ("f", A, A, B, B), True), (("and", "even", "wide"), ("f", A, A, B), False),
            (("or", "even", "wide"), ("f", A, A, B), True), ("nokind", A, False), (("not", "nokind"), A, True),
            (("or", "nokind", "leaf"), B, True), (("and", "not", "leaf"), B, False),
        ]:
            self.assertIs(is_of(BOOK, wish, tree), expected)

    def test_as_defined(self):
        source = random.Random(5)
        for book in naive.random_books(6, 40, kinds="xyz"):
            wish = naive.random_wish(source, ["x", "y", "z", "w"])
            tree = naive.random_tree(source, book.signs, source.randint(1, 15))
            self.assertIs(is_of(book, wish, tree), naive.is_met(wish, naive.lot(book, tree)))

    def test_wishes_of_twenty_words(self):
        wish = "leaf"
        for _ in range(9):
            wish = ("and", wish, ("not", "wide"))
        self.assertIs(is_of(BOOK, wish, A), True)
        self.assertIs(is_of(BOOK, ("or", wish, "wide"), ("f", A, A, A)), True)

    def test_errors(self):
        self.assert_raises_exactly(InvalidBook, is_of, None, (), ())
        self.assert_raises_exactly(InvalidWish, is_of, BOOK, (), ())
        self.assert_raises_exactly(InvalidTree, is_of, BOOK, "a", ())


if __name__ == "__main__":
    unittest.main()
