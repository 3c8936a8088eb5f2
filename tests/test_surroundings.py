"""Promises 7, 8 and 18: frames, surroundings, kin."""

import random
import unittest

from broodcounts.books import Book
from broodcounts.errors import InvalidFrame, InvalidSigns, InvalidTree
from broodcounts.surroundings import are_kin, filled, is_frame, is_parter, kin_classes, parter
from broodcounts.tables import lots, table
from broodcounts.wishes import is_of
from tests import naive
from tests.support import A, B, BOOK, SIGNS, CallCase, nested, odd_objects

F = ("f",)
# A tree is y if its one brother is x, z if its one brother is y: x is told only three levels above.
LEVELS = Book(["a", "b"], [
    ("x", "a", ((None, 0, 0, 1, 0),)), ("y", "b", (("x", 1, 1, 1, 0), (None, 1, 1, 1, 0))),
    ("z", "b", (("y", 1, 1, 1, 0), (None, 1, 1, 1, 0))),
])


class FrameTest(CallCase):
    def test_frames(self):
        self.assert_each_true(lambda thing: is_frame(SIGNS, thing), [
            None, ("f", None), ("f", None, None), ("f", A, None, B), ("f", ("f", ("f", B, None), A)),
            ("f", ("f", None), None, ("a", None)), ("f", *[None] * 4999), nested(40, lambda part: ("f", part)),
        ])

    def test_no_frames(self):
        self.assert_each_false(lambda thing: is_frame(SIGNS, thing), [
            A, ("f", A, B), (), (None,), (None, None), [None], ["f", None], ("f", [None]), ("z", None), ("f", None, "a"),
            ("f", None, ()), ("f", None, ("z",)), ("f", ("f", None), ("f", ("f", 0))), ("f", None, True), "f", 0, {},
            ("f", None, ("f", ("f", ("f", [])))), (("f",), None), ("f", ("f", (None,))), ("f", ("f", None, ("a", ["a"]))),
        ])

    def test_any_object(self):
        for thing in odd_objects():
            self.assertIs(is_frame(SIGNS, thing), thing is None or repr(thing).startswith("('a', ('a', "))
            self.assertIs(is_frame(SIGNS, ("f", None, A, ("f", thing))), is_frame(SIGNS, thing) or thing == A)

    def test_signs(self):
        self.assertIs(is_frame(["ab"], ("ab", None)), True)
        self.assertIs(is_frame(["ab"], ("a", None)), False)
        self.assert_raises_exactly(InvalidSigns, is_frame, [], None)


class FilledTest(CallCase):
    def test_filled(self):
        for frame, tree, expected in [
            (None, ("f", B, A), ("f", B, A)), (("f", None), A, ("f", A)), (("f", B, None, A), ("f", B), ("f", B, ("f", B), A)),
            (("f", None, ("a", None, None)), B, ("f", B, ("a", B, B))),
            (("f", ("f", B, A), None), ("f", ("f", A), B, A), ("f", ("f", B, A), ("f", ("f", A), B, A))),
        ]:
            self.assertEqual(filled(SIGNS, frame, tree), expected)

    def test_brothers_stay_in_their_order(self):
        frame = ("f", ("f", ("f", B), A), None, B, ("f", None, A))
        self.assertEqual(filled(SIGNS, frame, ("f", B, A)), ("f", ("f", ("f", B), A), ("f", B, A), B, ("f", ("f", B, A), A)))

    def test_many_places(self):
        whole = filled(SIGNS, ("f", *[None] * 300), ("f", *[A] * 300))
        self.assertEqual(whole, ("f", *[("f", *[A] * 300)] * 300))

    def test_errors(self):
        self.assert_raises_exactly(InvalidSigns, filled, ["a", "a"], A, None)
        self.assert_raises_exactly(InvalidFrame, filled, SIGNS, A, None)
        self.assert_each_raises(InvalidFrame, lambda frame: filled(SIGNS, frame, A),
                                [A, (), ("z", None), ("f", None, ()), [None], ("f", ("f", None), "a")])
        self.assert_each_raises(InvalidTree, lambda tree: filled(SIGNS, None, tree),
                                [None, ("f", None), (), ["f"], ("z",), ("f", ("z",)), "f"])


def parted_lots(book, wish):
    """The pairs of lots whose trees some surrounding parts, level by level."""
    there, lists = naive.lots_and_broods(book)
    levels = [{lot: naive.made_lot(book, sign, [*row, lot]) for lot in there}
              for sign in book.signs for row in lists.values()]
    pairs = {(one, other) for one in there for other in there if naive.is_met(wish, one) != naive.is_met(wish, other)}
    while True:
        more = {(one, other) for one in there for other in there
                if any((level[one], level[other]) in pairs for level in levels)} - pairs
        if not more:
            return pairs
        pairs |= more


class KinTest(CallCase):
    def check(self, book, wish, one, other, parted):
        found = parter(book, wish, one, other)
        self.assertIs(are_kin(book, wish, one, other), not parted)
        self.assertEqual(found is not None, parted)
        if parted:
            self.assertEqual((type(found), len(found)), (tuple, 1))
            self.assertIs(is_parter(book, wish, one, other, found[0]), True)
            both = [filled(book.signs, found[0], tree) for tree in (one, other)]
            self.assertNotEqual(is_of(book, wish, both[0]), is_of(book, wish, both[1]))

    def test_none_alone_parts(self):
        self.assertEqual(parter(BOOK, "leaf", A, F), (None,))
        self.check(BOOK, "leaf", A, F, True)
        self.assertIs(is_parter(BOOK, "leaf", A, F, None), True)
        self.assertIs(is_parter(BOOK, "leaf", A, F, (None,)), False)

    def test_the_same_tree_and_alike_ones(self):
        self.check(BOOK, "wide", A, A, False)
        self.check(BOOK, "even", ("f", A, B), ("f", B, A), False)

    def test_surroundings(self):
        self.check(BOOK, "wide", A, B, False)
        self.check(BOOK, "wide", A, F, True)
        self.check(BOOK, "even", F, ("f", A), True)
        self.check(BOOK, ("not", ("or", "leaf", ("not", "leaf"))), A, F, False)

    def test_several_levels(self):
        self.check(LEVELS, "z", A, B, True)
        self.assertEqual(parter(LEVELS, "z", A, B), (("b", ("b", None)),))
        self.assertEqual(parter(LEVELS, "y", A, B), (("b", None),))
        self.check(LEVELS, "z", B, ("a", B), False)
        self.check(LEVELS, "z", ("b", ("b", A)), ("b", ("b", B)), True)
        self.check(LEVELS, "y", ("b", ("b", A)), ("b", ("b", B)), False)

    def test_no_parters(self):
        for frame in [None, ("f", None), ("f", None, A), ("f", A, A, None, None), ("f", None, None, A), ("a", None),
                      ("f", A, B), ("f", A, A, [None]), ("z", A, A, None), ("f", A, A, ("f", None)), (None,), [None],
                      ("f", ("f", A, A, None))]:
            self.assertIs(is_parter(BOOK, "wide", A, F, frame), False)
        for frame in [("f", A, A, None), ("f", None, F, B, A), ("f", A, None, ("f", A, A, A), A)]:
            self.assertIs(is_parter(BOOK, "wide", A, F, frame), True)
            self.assertIs(is_parter(BOOK, "wide", F, A, frame), True)
            self.assertIs(is_parter(BOOK, "wide", A, B, frame), False)

    def test_any_object(self):
        self.assert_each_false(lambda thing: is_parter(BOOK, "wide", A, F, thing), odd_objects())
        self.assert_each_false(lambda thing: is_parter(BOOK, "wide", A, F, ("f", A, A, None, thing)),
                               [thing for thing in odd_objects() if thing != A])

    def test_as_defined(self):
        source = random.Random(61)
        for book in naive.random_books(61, 60) + naive.random_books(62, 20, kinds="xyz", bound=1, most=30):
            wish = naive.random_wish(source, ["x", "y", "z"])
            pairs = parted_lots(book, wish)
            for _ in range(4):
                one, other = [naive.random_tree(source, book.signs, source.randint(1, 8)) for _ in range(2)]
                self.check(book, wish, one, other, (naive.lot(book, one), naive.lot(book, other)) in pairs)

    def test_greater_trees(self):
        wide, deep = ("f", *[A] * 4999), nested(39, lambda part: ("f", part) if part else A)
        self.check(BOOK, "even", wide, deep, True)
        self.check(BOOK, "wide", ("f", *[A] * 4998), wide, False)


class KinClassesTest(CallCase):
    def test_wishes_that_part_nothing(self):
        everything = [lots(BOOK)]
        for wish in ["nokind", ("not", "nokind"), ("or", "leaf", ("not", "leaf")), ("and", "leaf", "even")]:
            self.assertEqual(kin_classes(BOOK, wish), everything)

    def test_several_levels(self):
        self.assertEqual(kin_classes(LEVELS, "x"), [[(), ("y",), ("z",)], [("x",)]])
        self.assertEqual(kin_classes(LEVELS, "y"), [[(), ("z",)], [("x",)], [("y",)]])
        self.assertEqual(kin_classes(LEVELS, "z"), [[()], [("x",)], [("y",)], [("z",)]])
        self.assertEqual(kin_classes(LEVELS, "w"), [[(), ("x",), ("y",), ("z",)]])

    def test_a_wish_and_its_opposite(self):
        source = random.Random(63)
        for book in naive.random_books(63, 40):
            wish = naive.random_wish(source, ["x", "y"])
            self.assertEqual(kin_classes(book, wish), kin_classes(book, ("not", wish)))

    def test_as_defined(self):
        source = random.Random(64)
        for book in naive.random_books(64, 80) + naive.random_books(65, 20, kinds="xyz", bound=1, most=30):
            wish = naive.random_wish(source, ["x", "y", "z"])
            pairs, there = parted_lots(book, wish), lots(book)
            expected = {tuple(other for other in there if (one, other) not in pairs) for one in there}
            self.assertEqual(kin_classes(book, wish), sorted(list(row) for row in expected))

    def test_kin_just_in_the_same_class(self):
        source = random.Random(66)
        for book in naive.random_books(66, 30):
            wish = naive.random_wish(source, ["x", "y"])
            rows = kin_classes(book, wish)
            self.assertEqual(sorted(lot for row in rows for lot in row), lots(book))
            trees = dict(table(book)[0])
            for one in trees:
                for other in trees:
                    same = any(one in row and other in row for row in rows)
                    self.assertIs(are_kin(book, wish, trees[one], trees[other]), same)


if __name__ == "__main__":
    unittest.main()
