"""Promises 6 and 12: cap, step, broods."""

import random
import unittest

from broodcounts.books import Book
from broodcounts.broods import brood_of, cap_and_step, grown, step
from broodcounts.errors import InvalidBook, InvalidBrood, InvalidLot, InvalidLots, UnknownSign
from broodcounts.wishes import lot_of
from tests import naive
from tests.support import A, B, BOOK, SIGNS, CallCase, odd_objects

SIX = Book(["a"], [("x", "a", (("x", 0, None, 2, 1),)), ("y", "a", (("x", 4, None, 3, 0), (None, 0, 2, 1, 0)))])


def asking(*asks):
    return Book(["a"], [("x", "a", asks)])


class CapAndStepTest(CallCase):
    def test_no_rules_and_no_asks(self):
        self.assertEqual(cap_and_step(Book(["a"], [])), (1, 1))
        self.assertEqual(cap_and_step(asking()), (1, 1))

    def test_cap(self):
        for asks, cap in [
            ([("x", 0, None, 1, 0)], 1), ([("x", 0, 0, 1, 0)], 1), ([("x", 3, None, 1, 0)], 4),
            ([("x", 0, 3, 1, 0)], 4), ([("x", 2, 5, 1, 0)], 6), ([("x", 5, None, 1, 0), ("x", 1, 2, 1, 0)], 6),
            ([(None, 4, None, 1, 0), ("y", 0, 1, 1, 0)], 5),
        ]:
            self.assertEqual(cap_and_step(asking(*asks)), (cap, 1))

    def test_step(self):
        for steps, expected in [([1], 1), ([2], 2), ([3], 3), ([1, 2], 2), ([2, 2], 2), ([2, 3], 6), ([3, 2, 1], 6)]:
            asks = [("x", 0, None, each, 0) for each in steps]
            self.assertEqual(cap_and_step(asking(*asks)), (1, expected))
        self.assertEqual(cap_and_step(SIX), (5, 6))

    def test_low_beyond_each_high(self):
        book = asking(("x", 5, None, 1, 0), ("x", 0, 1, 1, 0))
        self.assertEqual(cap_and_step(book), (6, 1))
        self.assertEqual(brood_of(book, [("x",)] * 5), ((5, 0), (5, 0)))
        self.assertEqual(brood_of(book, [("x",)] * 7), ((6, 0), (6, 0)))

    def test_any_rule_counts(self):
        book = Book(SIGNS, [("x", "a", ()), ("y", "b", (("z", 1, 2, 3, 1),)), ("y", "f", ((None, 0, None, 2, 0),))])
        self.assertEqual(cap_and_step(book), (3, 6))


class BroodOfTest(CallCase):
    def test_numbers_up_to_the_cap_and_rests_beyond(self):
        for number in range(30):
            self.assertEqual(brood_of(SIX, [("x",)] * number), ((min(number, 5), number % 6), (0, 0),
                                                               (min(number, 5), number % 6)))

    def test_the_empty_list(self):
        self.assertEqual(brood_of(BOOK, []), ((0, 0),) * 4)
        self.assertEqual(brood_of(Book(["a"], []), []), ((0, 0),))

    def test_lots_that_no_tree_has(self):
        self.assertEqual(brood_of(BOOK, [("even", "leaf", "wide"), ("leaf", "wide"), ()]),
                         ((1, 1), (2, 0), (2, 0), (3, 1)))

    def test_books_without_rules(self):
        self.assertEqual(brood_of(Book(["a"], []), [()] * 3), ((1, 0),))

    def test_order_does_not_matter(self):
        lots = [("even",), ("leaf",), (), ("even", "wide"), ("leaf",)]
        self.assertEqual(brood_of(BOOK, lots), brood_of(BOOK, lots[::-1]))

    def test_as_defined(self):
        source = random.Random(12)
        for book in naive.random_books(12, 60, kinds="xyz", bound=5, most=10 ** 6):
            lots = [tuple(kind for kind in book.kinds if source.random() < 0.5) for _ in range(source.randint(0, 30))]
            self.assertEqual(cap_and_step(book), naive.cap_and_step(book))
            self.assertEqual(brood_of(book, lots), naive.brood(book, lots))

    def test_long_lists(self):
        self.assertEqual(brood_of(BOOK, [("leaf",)] * 30001), ((0, 0), (4, 1), (0, 0), (4, 1)))

    def test_no_lots(self):
        self.assert_each_raises(InvalidLots, lambda lots: brood_of(BOOK, lots), [
            (), (("leaf",),), None, "leaf", {}, ["leaf"], [["leaf"]], [None], [("leaf", "even")], [("leaf", "leaf")],
            [("nokind",)], [("leaf",), ("even", "nokind")], [("leaf",), 0], [("leaf", None)], [((),)], [()] * 9 + [[]],
        ])
        self.assert_raises_exactly(InvalidLots, brood_of, Book(["a"], []), [("x",)])


class GrownTest(CallCase):
    def test_numbers_below_at_and_above_the_cap(self):
        for number in range(20):
            brood = brood_of(SIX, [("x",)] * number)
            self.assertEqual(grown(SIX, brood, ("x",)), brood_of(SIX, [("x",)] * (number + 1)))
            self.assertEqual(grown(SIX, brood, ()), brood_of(SIX, [("x",)] * number + [()]))
            self.assertEqual(grown(SIX, brood, ("x", "y")), brood_of(SIX, [("x",)] * number + [("x", "y")]))

    def test_each_rest_at_the_cap(self):
        for rest in range(6):
            self.assertEqual(grown(SIX, ((5, rest), (5, 0), (5, 3)), ("x",)),
                             ((5, (rest + 1) % 6), (5, 0), (5, 4)))

    def test_broods_that_no_list_has(self):
        self.assertEqual(grown(SIX, ((3, 3), (5, 2), (0, 0)), ("y",)), ((3, 3), (5, 3), (1, 1)))

    def test_as_the_longer_list(self):
        source = random.Random(13)
        for book in naive.random_books(13, 40, kinds="xyz", bound=5, most=10 ** 6):
            lots = []
            for _ in range(15):
                lot = tuple(kind for kind in book.kinds if source.random() < 0.5)
                self.assertEqual(grown(book, brood_of(book, lots), lot), brood_of(book, [*lots, lot]))
                lots.append(lot)

    def test_no_broods(self):
        good = ((1, 1), (5, 3), (4, 4))
        self.assertEqual(grown(SIX, good, ()), ((1, 1), (5, 3), (5, 5)))
        wrong = [(), good[:2], (*good, (0, 0)), list(good), None, "", {}, 0]
        for part in [(6, 0), (-1, 5), (5, 6), (5, -1), (4, 3), (3, 0), (0, 1), (True, 1), (1, True), (False, 0),
                     (0, False), (5, None), (None, 0), (1,), (1, 1, 1), [1, 1], 1, None, (), "11", ((1, 1),)]:
            wrong += [(part, *good[1:]), (good[0], part, good[2]), (*good[:2], part)]
        self.assert_each_raises(InvalidBrood, lambda brood: grown(SIX, brood, ()), wrong + odd_objects())
        self.assert_each_raises(InvalidBrood, lambda brood: step(SIX, "a", brood), wrong + odd_objects())

    def test_no_lots(self):
        brood = brood_of(BOOK, [])
        self.assert_each_raises(InvalidLot, lambda lot: grown(BOOK, brood, lot), [
            ("nokind",), ("z",), ("even", "nokind"), ("leaf", "even"), ("leaf", "leaf"), ["leaf"], "leaf", None, (None,),
            (("leaf",),), (["leaf"],), {"leaf": True},
        ] + [thing for thing in odd_objects() if thing != ()])

    def test_order_of_errors(self):
        self.assert_raises_exactly(InvalidBook, grown, None, None, None)
        self.assert_raises_exactly(InvalidBrood, grown, BOOK, None, None)
        self.assert_raises_exactly(InvalidLot, grown, BOOK, ((0, 0),) * 4, None)


class StepTest(CallCase):
    def test_step(self):
        self.assertEqual(step(BOOK, "a", ((0, 0),) * 4), ("leaf",))
        self.assertEqual(step(BOOK, "f", ((0, 0),) * 4), ("even",))
        self.assertEqual(step(BOOK, "f", ((0, 0), (3, 1), (0, 0), (3, 1))), ("wide",))
        self.assertEqual(step(BOOK, "f", ((2, 0), (0, 0), (0, 0), (2, 0))), ())

    def test_each_bound_and_rest(self):
        for low in range(6):
            for high in [None, *range(low, 6)]:
                for each in (1, 2, 3):
                    ask = ("x", low, high, each, each - 1)
                    book = Book(["a"], [("y", "a", (ask, ("x", 0, None, 2, 0)))])
                    for number in range(0, 24):
                        expected = ("y",) if number % 2 == 0 and naive.fitted(ask, number) else ()
                        self.assertEqual(step(book, "a", brood_of(book, [("x",)] * number)), expected)

    def test_as_the_lot_of_a_tree(self):
        source = random.Random(14)
        for book in naive.random_books(14, 60, kinds="xyz", bound=5, most=10 ** 6):
            for _ in range(5):
                tree = naive.random_tree(source, book.signs, source.randint(1, 20))
                brood = brood_of(book, [lot_of(book, brother) for brother in tree[1:]])
                self.assertEqual(step(book, tree[0], brood), lot_of(book, tree))

    def test_broods_that_no_list_has(self):
        self.assertEqual(step(SIX, "a", ((4, 4), (0, 0), (5, 0))), ())
        self.assertEqual(step(SIX, "a", ((5, 0), (5, 5), (0, 0))), ("y",))
        self.assertEqual(step(SIX, "a", ((5, 3), (5, 5), (2, 2))), ("x", "y"))

    def test_unknown_signs(self):
        brood = brood_of(BOOK, [])
        self.assert_each_raises(UnknownSign, lambda sign: step(BOOK, sign, brood), [
            "z", "", "ab", "F", None, 0, True, ["f"], ("f",), {}, SIGNS,
        ])
        self.assert_raises_exactly(UnknownSign, step, BOOK, "z", None)
        self.assert_raises_exactly(InvalidBook, step, SIGNS, "z", None)

    def test_wide_trees(self):
        brothers = [A, B] * 200 + [A]
        brood = brood_of(BOOK, [lot_of(BOOK, brother) for brother in brothers])
        self.assertEqual((brood, step(BOOK, "f", brood)), (((0, 0), (4, 1), (0, 0), (4, 1)), ("wide",)))


if __name__ == "__main__":
    unittest.main()
