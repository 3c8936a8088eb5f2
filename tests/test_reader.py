"""Promise 22: readers."""

import random
import time
import unittest

from broodcounts.books import Book
from broodcounts.errors import InvalidBook, InvalidWish, NothingOpen, NothingToUndo, UnknownSign
from broodcounts.reader import Reader
from broodcounts.trees import trees_of_size
from broodcounts.wishes import is_of, lot_of
from tests import naive
from tests.support import A, B, BOOK, MANY_SIGNS, NO_WISHES, RULES, SIGNS, TWO_SIGNS, CallCase, odd_objects, read, snapshot

F = ("f",)


def state(reader):
    return (reader.lots, reader.signs, len(reader))


def undone(reader):
    """All states that undo leads back through, by a copy."""
    other, states = reader.copy(), [state(reader)]
    while True:
        try:
            other.undo()
        except NothingToUndo:
            return states
        states.append(state(other))


class ReadTest(CallCase):
    def test_a_new_reader(self):
        self.assertEqual(state(Reader(BOOK)), ([], [], 0))

    def test_one_tree_step_by_step(self):
        reader = Reader(BOOK)
        for call, passed, told, expected in [
            ("begin", ["f"], None, ([], ["f"], 1)), ("begin", ["a"], None, ([], ["f", "a"], 2)),
            ("close", [], ("leaf",), ([], ["f"], 1)), ("begin", ["f"], None, ([], ["f", "f"], 2)),
            ("begin", ["b"], None, ([], ["f", "f", "b"], 3)), ("close", [], ("leaf",), ([], ["f", "f"], 2)),
            ("close", [], (), ([], ["f"], 1)), ("begin", ["b"], None, ([], ["f", "b"], 2)),
            ("close", [], ("leaf",), ([], ["f"], 1)), ("close", [], ("even",), ([("even",)], [], 0)),
        ]:
            self.assertEqual(getattr(reader, call)(*passed), told)
            self.assertEqual(state(reader), expected)

    def test_several_outermost_trees(self):
        reader = Reader(BOOK)
        trees = [A, ("f", A, A, A), ("f", A), B, ("f", ("f", A, B), F), ("a", B), ("f", A, B, A, B)]
        for many, tree in enumerate(trees):
            self.assertEqual(read(reader, tree), lot_of(BOOK, tree))
            self.assertEqual(state(reader), ([lot_of(BOOK, part) for part in trees[:many + 1]], [], 0))

    def test_random_trees(self):
        source = random.Random(141)
        for book in naive.random_books(141, 60) + [MANY_SIGNS, TWO_SIGNS]:
            reader = Reader(book)
            trees = [naive.random_tree(source, book.signs, source.randint(1, 12)) for _ in range(4)]
            self.assertEqual([read(reader, tree) for tree in trees], [naive.lot(book, tree) for tree in trees])
            self.assertEqual(reader.lots, [lot_of(book, tree) for tree in trees])

    def test_refused_calls_change_nothing(self):
        reader = Reader(BOOK)
        self.assert_raises_exactly(NothingOpen, reader.close)
        self.assert_raises_exactly(NothingToUndo, reader.undo)
        read(reader, A)
        reader.begin("f")
        before = undone(reader)
        self.assert_each_raises(UnknownSign, reader.begin,
                                ["z", "F", "", None, True, 0, ("f",), ["f"], {"f": "f"}, SIGNS, BOOK, reader])
        self.assert_each_raises(InvalidWish, reader.can_become, NO_WISHES)
        self.assert_each_raises(InvalidWish, reader.must_become, NO_WISHES)
        self.assertEqual(undone(reader), before)
        reader.close()
        before = undone(reader)
        self.assert_raises_exactly(NothingOpen, reader.close)
        self.assert_raises_exactly(NothingOpen, reader.can_become, "leaf")
        self.assert_raises_exactly(NothingOpen, reader.must_become, "leaf")
        self.assertEqual(undone(reader), before)

    def test_signs_by_any_object(self):
        reader = Reader(BOOK)
        self.assert_each_raises(UnknownSign, reader.begin, [thing for thing in odd_objects() if thing != "a"])
        self.assertEqual(state(reader), ([], [], 0))

    def test_books_by_any_object(self):
        self.assert_each_raises(InvalidBook, Reader, [thing for thing in odd_objects() if not isinstance(thing, Book)])
        self.assert_each_raises(InvalidBook, Reader, [(SIGNS, RULES), [BOOK], Book, Reader(BOOK)])

    def test_what_is_told_may_be_changed(self):
        reader = Reader(BOOK)
        read(reader, A)
        reader.begin("f")
        for told in (lambda: reader.lots, lambda: reader.signs):
            expected = told()
            told().append("spoiled")
            told().clear()
            self.assertEqual(told(), expected)
            self.assertIsNot(told(), told())
        read(reader, B)
        self.assertEqual(state(reader), ([("leaf",)], ["f"], 1))

    def test_by_name(self):
        reader = Reader(book=BOOK)
        reader.begin(sign="f")
        self.assertEqual((reader.can_become(wish="even"), reader.must_become(wish="even")), (True, False))

    def test_the_book_stays(self):
        book = Book(SIGNS, RULES)
        reader = Reader(book)
        read(reader, ("f", A, B))
        reader.begin("f")
        reader.can_become("wide")
        self.assertEqual(snapshot(book), snapshot(BOOK))

    def test_two_readers_of_one_book(self):
        one, other = Reader(BOOK), Reader(BOOK)
        one.begin("f")
        read(other, A)
        other.begin("a")
        read(one, A)
        self.assertEqual((state(one), state(other)), (([], ["f"], 1), ([("leaf",)], ["a"], 1)))
        one.undo()
        self.assertEqual((one.close(), other.close()), (("leaf",), ("leaf",)))
        self.assertEqual((state(one), state(other)), (([], ["f"], 1), ([("leaf",), ("leaf",)], [], 0)))


class UndoTest(CallCase):
    def test_undo_of_a_begin(self):
        reader = Reader(BOOK)
        reader.begin("f")
        reader.begin("a")
        self.assertIsNone(reader.undo())
        self.assertEqual(state(reader), ([], ["f"], 1))
        self.assertEqual(reader.close(), ("even",))

    def test_undo_of_a_close(self):
        reader = Reader(BOOK)
        reader.begin("f")
        read(reader, A)
        read(reader, A)
        reader.undo()
        self.assertEqual(state(reader), ([], ["f", "a"], 2))
        read(reader, B)
        self.assertEqual(reader.close(), ())
        self.assertEqual(reader.close(), ())
        reader.undo()
        reader.undo()
        self.assertEqual(state(reader), ([], ["f", "a"], 2))

    def test_an_open_tree_has_its_brothers_again(self):
        reader = Reader(BOOK)
        read(reader, ("f", A, B, A))
        self.assertEqual(reader.lots, [("wide",)])
        reader.undo()
        self.assertEqual(state(reader), ([], ["f"], 1))
        read(reader, B)
        self.assertEqual(reader.close(), ("even", "wide"))

    def test_undo_of_a_close_with_several_open(self):
        reader = Reader(BOOK)
        for sign in "fffa":
            reader.begin(sign)
        reader.close()
        reader.undo()
        reader.undo()
        read(reader, A)
        read(reader, A)
        reader.undo()
        reader.undo()
        # Only one brother is beneath the third tree, and none beneath the others.
        self.assertEqual([reader.close() for _ in range(3)], [(), ("even",), ("even",)])

    def test_all_taken_back_and_done_anew(self):
        reader = Reader(BOOK)
        trees = [("f", A, ("f", B, B), A), A, ("f", ("f", A), F, B)]
        states, steps = [state(reader)], []
        for tree in trees:
            for step in steps_of(tree):
                steps.append(step)
                do(reader, step)
                states.append(state(reader))
        for _ in range(3):
            for expected in states[-2::-1]:
                reader.undo()
                self.assertEqual(state(reader), expected)
            self.assert_raises_exactly(NothingToUndo, reader.undo)
            self.assertEqual(state(reader), ([], [], 0))
            for step, expected in zip(steps, states[1:]):
                do(reader, step)
                self.assertEqual(state(reader), expected)

    def test_undo_is_not_undone(self):
        reader = Reader(BOOK)
        reader.begin("f")
        reader.begin("a")
        reader.undo()
        reader.undo()
        self.assert_raises_exactly(NothingToUndo, reader.undo)
        self.assertEqual(state(reader), ([], [], 0))


def steps_of(tree):
    return [tree[0], *[step for brother in tree[1:] for step in steps_of(brother)], None]


def do(reader, step):
    return reader.close() if step is None else reader.begin(step)


class CopyTest(CallCase):
    def test_both_go_on(self):
        reader = Reader(BOOK)
        read(reader, A)
        reader.begin("f")
        read(reader, A)
        other = reader.copy()
        self.assertIs(type(other), Reader)
        self.assertEqual(undone(other), undone(reader))
        before = undone(reader)
        read(other, B)
        self.assertEqual(undone(reader), before)
        read(reader, A)
        read(reader, A)
        self.assertEqual((reader.close(), other.close()), (("wide",), ("even",)))
        self.assertEqual((reader.lots, other.lots), ([("leaf",), ("wide",)], [("leaf",), ("even",)]))

    def test_undo_in_each(self):
        reader = Reader(BOOK)
        read(reader, ("f", A, B))
        other = reader.copy()
        for _ in range(3):
            other.undo()
        self.assertEqual((state(reader), state(other)), (([("even",)], [], 0), ([], ["f"], 1)))
        self.assertEqual(other.close(), ())
        reader.undo()
        self.assertEqual((state(reader), state(other)), (([], ["f"], 1), ([()], [], 0)))
        third = other.copy().copy()
        while len(undone(third)) > 1:
            third.undo()
        self.assert_raises_exactly(NothingToUndo, third.undo)
        self.assertEqual((state(reader), state(other)), (([], ["f"], 1), ([()], [], 0)))

    def test_a_copy_of_a_new_reader(self):
        reader = Reader(BOOK)
        other = reader.copy()
        other.begin("f")
        self.assertEqual((state(reader), state(other)), (([], [], 0), ([], ["f"], 1)))
        self.assert_raises_exactly(NothingToUndo, reader.undo)


class BecomeTest(CallCase):
    def check(self, reader, wish, can, must):
        self.assertIs(reader.can_become(wish), can)
        self.assertIs(reader.must_become(wish), must)

    def opened(self, *trees):
        """A reader with trees open, each told by its sign and the brothers that it has."""
        reader = Reader(BOOK)
        for sign, *brothers in trees:
            reader.begin(sign)
            for brother in brothers:
                read(reader, brother)
        return reader

    def test_one_open(self):
        for tree, wish, can, must in [
            (("f",), "even", True, False), (("f",), "wide", True, False), (("f",), "leaf", False, False),
            (("a",), "leaf", True, False), (("a", F), "leaf", False, False), (("a",), "even", False, False),
            (("f", A, A, A), "wide", True, True), (("f", A, A), "wide", True, False), (("f", F, F), "even", False, False),
            (("f", F, F), ("not", "even"), True, True), (("f", A), ("or", "even", ("not", "even")), True, True),
            (("f", A), "nokind", False, False), (("f", A), ("not", "nokind"), True, True),
            (("f", A, B, B, F), ("and", "wide", "even"), True, False), (("f", A, B, B), ("and", "wide", "leaf"), False, False),
        ]:
            self.check(self.opened(tree), wish, can, must)

    def test_two_open(self):
        for trees, wish, can, must in [
            ([("f",), ("a",)], "wide", True, False), ([("f", A, A), ("a",)], "wide", True, False),
            ([("f", A, A, B), ("a",)], "wide", True, True), ([("f", F, F), ("a",)], "even", False, False),
            ([("f", F), ("f",)], "even", True, False), ([("a",), ("b",)], "leaf", False, False),
            ([("a",), ("b",)], ("not", "leaf"), True, True), ([("f", F), ("f", F, F)], "even", True, False),
            ([("f", F), ("f", F, F)], ("not", "even"), True, False),
        ]:
            self.check(self.opened(*trees), wish, can, must)

    def test_several_open(self):
        # Only the outermost one matters, and what stands beneath it can still change.
        for trees, wish, can, must in [
            ([("f", A, A, A), ("f",), ("a",)], "wide", True, True), ([("a",), ("f",), ("f",)], "leaf", False, False),
            ([("f", F, F), ("f", A), ("f", F), ("b",)], "even", False, False),
            ([("f",), ("f",), ("f",), ("f",)], "even", True, False), ([("f",), ("f",), ("f",)], "nokind", False, False),
        ]:
            self.check(self.opened(*trees), wish, can, must)

    def test_what_the_inner_trees_cannot_become(self):
        # A tree is bad if a bad one, or an a with a brother, stands in it: what is open may have to become bad.
        book = Book(["a", "f"], [("bad", "a", ((None, 1, None, 1, 0),)), ("bad", "f", (("bad", 1, None, 1, 0),)),
                                 ("good", "a", ((None, 0, 0, 1, 0),)), ("good", "f", (("bad", 0, 0, 1, 0),))])
        for opened, can, must in [
            ("f", True, False), ("fa", True, False), ("faf", False, True), ("fff", True, False), ("fffa", True, False),
            ("fffaf", False, True), ("fffaff", False, True), ("a", True, False), ("af", False, True),
        ]:
            reader = Reader(book)
            for sign in opened:
                reader.begin(sign)
            self.check(reader, "good", can, False)
            self.check(reader, "bad", True, must)
            # A brother beneath the innermost tree matters only if its sign is a.
            read(reader, A)
            self.check(reader, "good", can and opened[-1] != "a", False)
            self.check(reader, "bad", True, must or opened[-1] == "a")

    def test_only_a_closed_tree_has_a_lot(self):
        reader = self.opened(("f", F))
        reader.begin("f")
        self.check(reader, "even", True, False)
        read(reader, A)
        read(reader, B)
        self.check(reader, "even", True, False)
        reader.close()
        self.check(reader, "even", False, False)
        reader.undo()
        self.check(reader, "even", True, False)
        read(reader, F)
        read(reader, F)
        self.check(reader, "even", True, False)
        reader.close()
        self.check(reader, "even", True, False)

    def test_the_last_outermost_tree(self):
        reader = self.opened(("f",))
        reader.close()
        reader.begin("a")
        self.check(reader, "leaf", True, False)
        self.check(reader, "even", False, False)

    def test_asking_changes_nothing(self):
        reader = self.opened(("f", A), ("a",))
        before = undone(reader)
        for wish in ["even", "wide", ("not", "even"), "even", "nokind"] * 2:
            first = (reader.can_become(wish), reader.must_become(wish))
            self.assertEqual((reader.must_become(("not", wish)), reader.can_become(("not", wish))),
                             (not first[0], not first[1]))
            self.assertEqual(first, (reader.can_become(wish), reader.must_become(wish)))
        self.assertEqual(undone(reader), before)

    def test_against_short_ways_to_go_on(self):
        source = random.Random(142)
        told = set()
        for book in naive.random_books(142, 120):
            wish = naive.random_wish(source, ["x", "y"])
            opened = random_opened(source, book)
            reader = Reader(book)
            for sign, brothers in opened:
                reader.begin(sign)
                for brother in brothers:
                    read(reader, brother)
            can, must = reader.can_become(wish), reader.must_become(wish)
            lots = possible_lots(book, opened)
            self.assertEqual((can, must), (any(naive.is_met(wish, lot) for lot in lots),
                                           all(naive.is_met(wish, lot) for lot in lots)))
            ends = [is_of(book, wish, tree) for tree in short_ends(book, opened)]
            self.assertTrue(can or not any(ends))
            self.assertTrue(not must or all(ends))
            told.add((can, must))
        self.assertEqual(told, {(True, True), (True, False), (False, False)})

    def test_errors(self):
        reader = Reader(BOOK)
        for call in (reader.can_become, reader.must_become):
            self.assert_each_raises(InvalidWish, call, NO_WISHES)
            self.assert_each_raises(NothingOpen, call, ["leaf", "nokind", ("not", "nokind"), ("and", "leaf", "even")])
        reader.begin("a")
        reader.close()
        for call in (reader.can_become, reader.must_become):
            self.assert_each_raises(InvalidWish, call, NO_WISHES)
            self.assert_each_raises(NothingOpen, call, ["leaf"])


def random_opened(source, book):
    return [(source.choice(book.signs), [naive.random_tree(source, book.signs, source.randint(1, 3))
                                         for _ in range(source.randint(0, 3))]) for _ in range(source.randint(1, 3))]


def possible_lots(book, opened):
    """The lots that the outermost of open trees may come to have, by all lots and broods."""
    there, _ = naive.lots_and_broods(book)
    found = [None]
    for sign, brothers in reversed(opened):
        told = [naive.lot(book, brother) for brother in brothers]
        rows = [told if inner is None else [*told, inner] for inner in found]
        seen = {naive.brood(book, row) for row in rows}
        for row in rows:
            for lot in there:
                if naive.brood(book, [*row, lot]) not in seen:
                    seen.add(naive.brood(book, [*row, lot]))
                    rows.append([*row, lot])
        found = sorted({naive.made_lot(book, sign, row) for row in rows})
    return found


def short_ends(book, opened):
    """The outermost trees behind short ways to go on: at most one small tree more at each level."""
    small = [()] + [(tree,) for places in (1, 2) for tree in trees_of_size(book.signs, places)]
    ends = [()]
    for sign, brothers in reversed(opened):
        ends = [((sign, *brothers, *inner, *more),) for inner in ends for more in small[:4]]
    return [tree for tree, in ends]


class LargeTest(CallCase):
    def test_a_thousand_deep(self):
        reader = Reader(BOOK)
        for _ in range(3000):
            reader.begin("f")
        self.assertEqual((len(reader), reader.signs), (3000, ["f"] * 3000))
        begun = time.perf_counter()
        self.assertEqual((reader.can_become("even"), reader.must_become("even")), (True, False))
        other = reader.copy()
        self.assertLess(time.perf_counter() - begun, 1)
        lots = [reader.close() for _ in range(3000)]
        self.assertEqual(lots, [("even",)] * 3000)
        self.assertEqual(reader.lots, [("even",)])
        for _ in range(6000):
            reader.undo()
        self.assertEqual(state(reader), ([], [], 0))
        self.assertEqual(len(other), 3000)
        read(other, A)
        self.assertEqual([other.close() for _ in range(4)], [(), ("even",), ("even",), ("even",)])

    def test_thousands_of_brothers(self):
        reader = Reader(BOOK)
        reader.begin("f")
        for many in range(1, 5001):
            read(reader, A)
            if many % 500 == 0:
                begun = time.perf_counter()
                self.assertEqual((reader.can_become("even"), reader.must_become("wide")), (True, True))
                self.assertEqual(reader.copy().close(), ("even", "wide"))
                self.assertLess(time.perf_counter() - begun, 1)
        read(reader, B)
        self.assertEqual(reader.close(), ("wide",))
        for _ in range(9001):
            reader.undo()
        self.assertEqual(state(reader), ([], ["f"], 1))

    def test_deep_and_wide_at_the_bounds(self):
        for book in (MANY_SIGNS, TWO_SIGNS):
            begun = time.perf_counter()
            reader = Reader(Book(book.signs, book.rules))
            for at in range(2000):
                reader.begin(book.signs[at % len(book.signs)])
                read(reader, (book.signs[at % 2],))
            for wish in ("x", ("not", "y"), ("and", "x", "z")):
                self.assertIs(reader.must_become(wish), not reader.can_become(("not", wish)))
            while len(reader):
                reader.close()
            self.assertEqual(len(reader.lots), 1)
            self.assertLess(time.perf_counter() - begun, 2)

    def test_many_small_ones(self):
        books = naive.random_books(143, 300)
        begun = time.perf_counter()
        for book in books:
            reader = Reader(book)
            reader.begin(book.signs[0])
            reader.can_become("x")
            reader.copy().close()
        self.assertLess(time.perf_counter() - begun, 300 * 0.005)


if __name__ == "__main__":
    unittest.main()
