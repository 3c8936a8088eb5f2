"""Promises 6 and 13: the lots of a book, and tables that show them."""

import random
import unittest

from broodcounts.books import Book
from broodcounts.broods import brood_of, grown, step
from broodcounts.tables import is_table, lots, table
from broodcounts.trees import is_tree
from broodcounts.wishes import lot_of
from tests import naive
from tests.support import A, B, BOOK, MANY_SIGNS, SIGNS, TWO_SIGNS, CallCase, odd_objects

F = ("f",)
ONE = Book(["a"], [("x", "a", ())])
TWO = Book(["a"], [("x", "a", ((None, 0, None, 2, 1),))])


class LotsTest(CallCase):
    def test_one_lot(self):
        self.assertEqual(lots(Book(["a"], [])), [()])
        self.assertEqual(lots(ONE), [("x",)])
        self.assertEqual(lots(Book(["a", "b"], [("x", "a", (("x", 1, None, 1, 0),))])), [()])

    def test_two_lots(self):
        self.assertEqual(lots(TWO), [(), ("x",)])

    def test_eight_lots(self):
        eight = [(), ("x",), ("x", "y"), ("x", "y", "z"), ("x", "z"), ("y",), ("y", "z"), ("z",)]
        self.assertEqual(lots(MANY_SIGNS), eight)
        self.assertEqual(lots(TWO_SIGNS), eight)

    def test_lots_that_only_large_trees_have(self):
        book = Book(["a", "b"], [("x", "a", ((None, 0, 0, 1, 0),)), ("y", "b", (("x", 5, 5, 1, 0), (None, 0, 5, 1, 0))),
                                 ("z", "b", (("y", 5, 5, 1, 0), (None, 0, 5, 1, 0)))])
        self.assertEqual(lots(book), [(), ("x",), ("y",), ("z",)])

    def test_as_defined(self):
        for book in naive.random_books(21, 100) + naive.random_books(22, 40, kinds="xyz", bound=1, most=30):
            self.assertEqual(lots(book), sorted(naive.lots_and_broods(book)[0]))

    def test_each_tree_has_one_of_them(self):
        source = random.Random(23)
        for book in naive.random_books(23, 40):
            there, broods = lots(book), table(book)[1]
            for _ in range(10):
                tree = naive.random_tree(source, book.signs, source.randint(1, 20))
                self.assertIn(lot_of(book, tree), there)
                self.assertIn(brood_of(book, [lot_of(book, brother) for brother in tree[1:]]), broods)


class TableTest(CallCase):
    def check(self, book):
        rows, broods = table(book)
        self.assertEqual(sorted(lot for lot, _ in rows), lots(book))
        for lot, tree in rows:
            self.assertTrue(is_tree(book.signs, tree))
            self.assertEqual(lot_of(book, tree), lot)
        self.assertEqual(len(set(broods)), len(broods))
        self.assertIn(brood_of(book, []), broods)
        for brood in broods:
            self.assertTrue(all(grown(book, brood, lot) in broods for lot, _ in rows))
            self.assertTrue(all(step(book, sign, brood) in lots(book) for sign in book.signs))
        self.assertIs(is_table(book, (rows, broods)), True)
        return broods

    def test_as_defined(self):
        for book in naive.random_books(24, 60):
            self.assertEqual(set(self.check(book)), set(naive.lots_and_broods(book)[1]))

    def test_some_books(self):
        for book in (BOOK, ONE, TWO, Book(["a"], [])):
            self.check(book)

    def test_at_the_bounds(self):
        for book in (MANY_SIGNS, TWO_SIGNS):
            self.assertEqual(len(table(book)[1]), 684)
            self.assertIs(is_table(book, table(book)), True)

    def test_a_table_tells_a_new_list_each_time(self):
        first = table(BOOK)
        first[0].clear()
        first[1].clear()
        self.assertIs(is_table(BOOK, table(BOOK)), True)


class IsTableTest(CallCase):
    def test_left_out_doubled_and_in_another_order(self):
        for book in (BOOK, ONE, TWO):
            rows, broods = table(book)
            for at in range(len(rows)):
                self.assertIs(is_table(book, (rows[:at] + rows[at + 1:], broods)), False)
                self.assertIs(is_table(book, (rows + [rows[at]], broods)), False)
            for at in range(0, len(broods), 5):
                self.assertIs(is_table(book, (rows, broods[:at] + broods[at + 1:])), False)
                self.assertIs(is_table(book, (rows, broods + [broods[at]])), False)
            self.assertIs(is_table(book, (rows[::-1], broods[::-1])), True)

    def test_lots_put_in(self):
        rows, broods = table(BOOK)
        for row in [(("leaf", "wide"), A), (("nokind",), A), (("wide",), A), ((), A), (["leaf"], A)]:
            self.assertIs(is_table(BOOK, (rows + [row], broods)), False)

    def test_other_trees(self):
        rows, broods = table(BOOK)
        others = {(): [("a", A), ("f", F, A), ("f", F, F)], ("leaf",): [A, B],
                  ("even",): [("f", B, A), F, ("f", F), ("f", ("f", B, A), B, A)],
                  ("even", "wide"): [("f", B, A, B, A)], ("wide",): [("f", B, A, A), ("f", F, A, B, A, F)]}
        for at, (lot, _) in enumerate(rows):
            for own, trees in others.items():
                for tree in trees:
                    changed = rows[:at] + [(lot, tree)] + rows[at + 1:]
                    self.assertIs(is_table(BOOK, (changed, broods)), own == lot)
            for tree in [None, (), ("z",), [*A], ("f", None), ("f", A, [A]), "a", ("a", ())]:
                self.assertIs(is_table(BOOK, (rows[:at] + [(lot, tree)] + rows[at + 1:], broods)), False)

    def test_tuples_and_lists(self):
        rows, broods = table(BOOK)
        for thing in [
            [rows, broods], (tuple(rows), broods), (rows, tuple(broods)), ([list(row) for row in rows], broods),
            ([(list(lot), tree) for lot, tree in rows], broods), (rows, [list(brood) for brood in broods]),
            ([(lot, list(tree)) for lot, tree in rows], broods),
            (rows, [tuple(map(list, brood)) for brood in broods]), (rows, {brood: True for brood in broods}),
            (dict(rows), broods), (rows,), (rows, broods, []), (), (broods, rows), (rows, None), (None, broods),
            ([(*row, None) for row in rows], broods), ([row[:1] for row in rows], broods), (rows, []), ([], broods),
            ([], []),
        ]:
            self.assertIs(is_table(BOOK, thing), False)

    def test_wrong_broods_put_in(self):
        rows, broods = table(BOOK)
        for brood in [(), ((0, 0),) * 3, ((0, 0),) * 5, ((5, 1),) * 4, ((0, 1),) * 4, ((4, 2),) * 4, ((True, 1),) * 4,
                      None, ((1, 0),) * 4, "brood", 0, ((0, False),) * 4]:
            self.assertIs(is_table(BOOK, (rows, broods + [brood])), False)

    def test_a_brood_that_no_list_has_but_closed(self):
        rows, broods = table(ONE)
        self.assertEqual(broods, [((0, 0), (0, 0)), ((1, 0), (1, 0))])
        self.assertIs(is_table(ONE, (rows, broods + [((1, 0), (0, 0))])), True)
        self.assertIs(is_table(ONE, (rows, [((0, 0), (1, 0)), ((1, 0), (0, 0))] + broods)), True)
        rows, broods = table(TWO)
        more = [((1, 0), (0, 0)), ((1, 1), (0, 0))]
        self.assertFalse(any(brood in broods for brood in more))
        self.assertIs(is_table(TWO, (rows, broods + more)), True)

    def test_a_brood_that_no_list_has_and_is_not_closed(self):
        book = Book(["a"], [("x", "a", ()), ("x", "a", (("x", 0, 2, 1, 0),))])
        rows, broods = table(book)
        self.assertEqual((rows[0][0], len(broods)), (("x",), 4))
        self.assertIs(is_table(book, (rows, broods + [((2, 0), (1, 0))])), False)
        self.assertIs(is_table(book, (rows, broods + [((3, 0), (2, 0)), ((1, 0), (0, 0))])), False)

    def test_all_broods_that_can_be_told_are_closed(self):
        parts = [(number, number % 2) for number in range(4)] + [(4, 0), (4, 1)]
        everything = [(one, two, three, four) for one in parts for two in parts for three in parts for four in parts]
        rows = table(BOOK)[0] + [(("even", "leaf"), A)]
        # Above broods that no list has stand no lots but those of the book.
        self.assertIs(is_table(BOOK, (table(BOOK)[0], everything)), True)
        self.assertIs(is_table(BOOK, (rows, everything)), False)

    def test_broods_that_no_list_has_with_other_lots(self):
        # A tree is x only above a brother that is x where there is none at all.
        book = Book(["a"], [("x", "a", (("x", 1, None, 1, 0), (None, 0, 0, 1, 0)))])
        rows, broods = table(book)
        self.assertEqual(rows, [((), A)])
        more = [((1, 0), (1, 0)), ((1, 0), (2, 0))]
        self.assertIs(is_table(book, (rows, broods + more)), True)
        self.assertIs(is_table(book, (rows, broods + more + [((1, 0), (0, 0))])), False)

    def test_the_empty_brood_must_be_there(self):
        rows, broods = table(TWO)
        closed = [brood for brood in broods if brood != ((0, 0), (0, 0))]
        self.assertIs(is_table(TWO, (rows, broods)), True)
        self.assertIs(is_table(TWO, (rows, closed)), False)

    def test_tables_of_other_books(self):
        other = Book(SIGNS, BOOK.rules[:3])
        self.assertIs(is_table(other, table(BOOK)), False)
        self.assertIs(is_table(BOOK, table(other)), False)
        turned = Book(SIGNS[::-1], BOOK.rules[::-1])
        self.assertIs(is_table(turned, table(BOOK)), True)

    def test_any_object(self):
        rows, broods = table(BOOK)
        self.assert_each_false(lambda thing: is_table(BOOK, thing), odd_objects())
        for thing in odd_objects():
            for wrong in [(thing, broods), (rows, thing), (rows + [thing], broods), (rows, broods + [thing]),
                          (rows[:-1] + [(rows[-1][0], (thing,))], broods), (rows[:-1] + [(thing, A)], broods)]:
                self.assertIs(is_table(BOOK, wrong), False)

    def test_many_rows_and_broods(self):
        rows, broods = table(BOOK)
        self.assertIs(is_table(BOOK, (rows * 4000, broods)), False)
        self.assertIs(is_table(BOOK, (rows, broods * 200)), False)


if __name__ == "__main__":
    unittest.main()
