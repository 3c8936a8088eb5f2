"""Promise 24: documents."""

import random
import time
import unittest

from broodcounts.books import Book
from broodcounts.document import Document
from broodcounts.errors import (
    BroodError, InvalidBook, InvalidNumber, InvalidPath, InvalidWish, NothingToUndo, UnknownSign,
)
from broodcounts.wishes import is_of, lot_of
from tests import naive
from tests.support import A, B, BOOK, MANY_SIGNS, NO_WISHES, RULES, SIGNS, TWO_SIGNS, CallCase, odd_objects, snapshot

F = ("f",)
NO_SIGNS = ["z", "F", "", None, True, 0, ("f",), ["f"], {"f": "f"}, SIGNS, BOOK]


def state(document):
    return (document.tree, len(document))


def paths_of(tree, path=()):
    return [path] + [found for place, brother in enumerate(tree[1:]) for found in paths_of(brother, (*path, place))]


def part_at(tree, path):
    for place in path:
        tree = tree[place + 1]
    return tree


def changed(tree, call, path, sign):
    """The tree behind a call, by lists."""
    whole = listed(tree)
    part = whole
    for place in path[:-1] if call == "remove" else path:
        part = part[place + 1]
    if call == "add":
        part.append([sign])
    elif call == "rename":
        part[0] = sign
    else:
        del part[path[-1] + 1]
    return told(whole)


def listed(tree):
    return [tree[0], *[listed(brother) for brother in tree[1:]]]


def told(tree):
    return (tree[0], *[told(brother) for brother in tree[1:]])


def some_calls(source, document, signs, many):
    """Make so many random calls; return them and the trees behind them."""
    calls, trees = [], [document.tree]
    while len(calls) < many:
        call = source.choice(["add", "add", "add", "remove", "rename"])
        paths = [path for path in paths_of(document.tree) if call != "remove" or path]
        if paths:
            path, sign = source.choice(paths), source.choice(signs)
            getattr(document, call)(*([path] if call == "remove" else [path, sign]))
            calls.append((call, path, sign))
            trees.append(document.tree)
    return calls, trees


def built(tree, book=BOOK):
    """A document of a tree."""
    document = Document(book, tree[0])
    for path in paths_of(tree)[1:]:
        document.add(path[:-1], part_at(tree, path)[0])
    return document


class EditTest(CallCase):
    def test_a_new_document(self):
        for sign in SIGNS:
            document = Document(BOOK, sign)
            self.assertEqual(state(document), ((sign,), 0))

    def test_step_by_step(self):
        document = Document(BOOK, "f")
        for call, passed, expected in [
            ("add", [(), "a"], ("f", A)), ("add", [(), "f"], ("f", A, F)), ("add", [(1,), "b"], ("f", A, ("f", B))),
            ("add", [(1, 0), "a"], ("f", A, ("f", ("b", A)))), ("add", [(0,), "b"], ("f", ("a", B), ("f", ("b", A)))),
            ("rename", [(), "a"], ("a", ("a", B), ("f", ("b", A)))), ("rename", [(1, 0), "f"], ("a", ("a", B), ("f", ("f", A)))),
            ("remove", [(0,)], ("a", ("f", ("f", A)))), ("add", [(), "b"], ("a", ("f", ("f", A)), B)),
            ("remove", [(0, 0)], ("a", F, B)), ("rename", [(1,), "b"], ("a", F, B)), ("remove", [(1,)], ("a", F)),
        ]:
            before = len(document)
            self.assertIsNone(getattr(document, call)(*passed))
            self.assertEqual(state(document), (expected, before + 1))

    def test_a_tree_is_put_behind_the_brothers(self):
        document = Document(BOOK, "f")
        for sign in "bafab":
            document.add((), sign)
        self.assertEqual(document.tree, ("f", B, A, F, A, B))

    def test_places_behind_a_removed_brother_move(self):
        document = built(("f", A, B, ("f", A), B))
        document.remove((1,))
        self.assertEqual(document.tree, ("f", A, ("f", A), B))
        document.add((1,), "b")
        self.assertEqual(document.tree, ("f", A, ("f", A, B), B))
        self.assert_raises_exactly(InvalidPath, document.remove, (3,))
        document.remove((2,))
        self.assertEqual(document.tree, ("f", A, ("f", A, B)))

    def test_told_trees_stay(self):
        document = Document(BOOK, "f")
        document.add((), "f")
        before = document.tree
        document.add((0,), "a")
        document.rename((), "b")
        document.remove((0, 0))
        self.assertEqual(before, ("f", F))

    def test_random_calls(self):
        source = random.Random(241)
        for _ in range(100):
            document = Document(BOOK, "f")
            calls, trees = some_calls(source, document, SIGNS, 20)
            for (call, path, sign), tree, after in zip(calls, trees, trees[1:]):
                self.assertEqual(after, changed(tree, call, path, sign))
            self.assertEqual(len(document), 20)


class ErrorsTest(CallCase):
    def wrong_paths(self, tree):
        """Paths that are none, among them some just beside each one that is there."""
        found = [None, True, False, 0, 1, -1, "", "0", [], [0], {}, {0: 0}, ("0",), (None,), ((),), ((0,),), (-1,), (True,),
                 (False,), (10 ** 39,), ([0],), BOOK, (BOOK,), *[thing for thing in odd_objects() if thing != ()]]
        for path in paths_of(tree):
            many = len(part_at(tree, path)) - 1
            found += [(*path, many), (*path, -1), (*path, many + 5), [*path], (*path, None), (*path, True), (*path, "0"),
                      (*path, many, 0), (*path, 0, -1), (-1, *path)]
        return found

    def test_paths_at_which_there_is_no_tree(self):
        tree = ("f", A, ("f", B, ("a", F)), B)
        document = built(tree)
        before = state(document)
        for path in self.wrong_paths(tree):
            for call in (lambda path: document.add(path, "a"), lambda path: document.rename(path, "b"),
                         document.remove, document.lot, lambda path: document.add(path, None),
                         lambda path: document.rename(path, "z")):
                self.assert_raises_exactly(InvalidPath, call, path)
        self.assertEqual(state(document), before)

    def test_a_place_that_is_gone(self):
        document = built(("f", ("f", A), B))
        document.remove((0, 0))
        self.assert_raises_exactly(InvalidPath, document.lot, (0, 0))
        document.remove((0,))
        self.assert_raises_exactly(InvalidPath, document.add, (0, 0), "a")
        self.assert_raises_exactly(InvalidPath, document.lot, (1,))
        document.undo(steps=2)
        self.assertEqual(document.lot((0, 0)), ("leaf",))

    def test_the_whole_tree_is_not_removed(self):
        document = built(("f", A))
        self.assert_raises_exactly(InvalidPath, document.remove, ())
        self.assertEqual(document.tree, ("f", A))

    def test_signs(self):
        document = built(("f", A))
        before = state(document)
        self.assert_each_raises(UnknownSign, lambda sign: document.add((), sign), NO_SIGNS)
        self.assert_each_raises(UnknownSign, lambda sign: document.rename((0,), sign), NO_SIGNS)
        self.assertEqual(state(document), before)

    def test_new_documents(self):
        self.assert_each_raises(UnknownSign, lambda sign: Document(BOOK, sign), NO_SIGNS)
        self.assert_each_raises(UnknownSign, lambda sign: Document(BOOK, sign), [x for x in odd_objects() if x != "a"])
        self.assert_each_raises(InvalidBook, lambda book: Document(book, "z"), [None, SIGNS, (SIGNS, RULES), [BOOK], Book])
        self.assert_each_raises(InvalidBook, lambda book: Document(book, "a"),
                                [thing for thing in odd_objects() if not isinstance(thing, Book)])

    def test_wishes(self):
        self.assert_each_raises(InvalidWish, Document(BOOK, "f").failing, NO_WISHES)

    def test_refused_calls_are_no_calls(self):
        document = built(("f", A))
        for call in (lambda: document.add((5,), "a"), lambda: document.add((), "z"), lambda: document.remove(()),
                     lambda: document.rename((0,), "z"), lambda: document.undo(steps=2), lambda: document.undo(steps=0),
                     lambda: document.failing(()), lambda: document.lot((1,))):
            with self.assertRaises(BroodError):
                call()
        self.assertEqual(state(document), (("f", A), 1))
        document.undo()
        self.assertEqual(state(document), (F, 0))


class UndoTest(CallCase):
    def test_one_step_and_several(self):
        document = built(("f", A, B, F))
        self.assertIsNone(document.undo())
        self.assertEqual(state(document), (("f", A, B), 2))
        document.undo(steps=2)
        self.assertEqual(state(document), (F, 0))

    def test_each_call(self):
        tree = ("f", A, ("f", B, A), B)
        for call, passed in [("add", [(), "a"]), ("add", [(1,), "f"]), ("add", [(0,), "b"]), ("remove", [(0,)]),
                             ("remove", [(1,)]), ("remove", [(1, 0)]), ("remove", [(2,)]), ("rename", [(), "b"]),
                             ("rename", [(1, 1), "f"]), ("rename", [(0,), "a"])]:
            document = built(tree)
            getattr(document, call)(*passed)
            document.undo()
            self.assertEqual(document.tree, tree)

    def test_steps_that_are_no_such_integers(self):
        document = built(("f", A, B))
        self.assert_each_raises(InvalidNumber, lambda steps: document.undo(steps=steps),
                                [0, -1, -(10 ** 39), True, False, None, "1", (), [1], (1,), {}, BOOK])
        self.assert_each_raises(InvalidNumber, lambda steps: Document(BOOK, "a").undo(steps=steps), [0, -1, True, None])
        self.assertEqual(state(document), (("f", A, B), 2))

    def test_more_than_there_are(self):
        document = built(("f", A, B))
        self.assert_each_raises(NothingToUndo, lambda steps: document.undo(steps=steps), [3, 4, 10 ** 39])
        self.assertEqual(state(document), (("f", A, B), 2))
        document.undo(steps=2)
        self.assert_raises_exactly(NothingToUndo, document.undo)
        self.assertEqual(state(document), (F, 0))

    def test_by_name_only(self):
        document = built(("f", A, B))
        with self.assertRaises(TypeError):
            document.undo(1)
        self.assertEqual(state(document), (("f", A, B), 2))

    def test_all_taken_back_and_done_anew(self):
        source = random.Random(242)
        for _ in range(60):
            document = Document(BOOK, source.choice(SIGNS))
            calls, trees = some_calls(source, document, SIGNS, 15)
            at = 15
            while at > 0:
                steps = source.randint(1, at)
                document.undo(steps=steps)
                at -= steps
                self.assertEqual(state(document), (trees[at], at))
            for at, (call, path, sign) in enumerate(calls):
                getattr(document, call)(*([path] if call == "remove" else [path, sign]))
                self.assertEqual(state(document), (trees[at + 1], at + 1))

    def test_undone_calls_are_gone(self):
        document = built(("f", A, B))
        document.undo()
        document.add((), "f")
        document.undo(steps=2)
        self.assertEqual(state(document), (F, 0))
        self.assert_raises_exactly(NothingToUndo, document.undo)


class LotsTest(CallCase):
    def test_lot_at_each_path(self):
        document = built(("f", A, ("f", ("f", A, A, A), B), B, B))
        for path, expected in [((), ("wide",)), ((0,), ("leaf",)), ((1,), ()), ((1, 0), ("wide",)), ((1, 0, 2), ("leaf",))]:
            self.assertEqual(document.lot(path), expected)

    def test_failing_ascends(self):
        document = built(("f", A, ("f", ("f", A, A, A), B), B, B))
        every = paths_of(document.tree)
        self.assertEqual(document.failing("nokind"), every)
        self.assertEqual(every, sorted(every))
        self.assertEqual(document.failing(("not", "nokind")), [])
        self.assertEqual(document.failing("leaf"), [(), (1,), (1, 0)])
        self.assertEqual(document.failing("wide"), [path for path in every if path not in ((), (1, 0))])
        self.assertEqual(document.failing(("not", ("or", "leaf", "wide"))), [path for path in every if path != (1,)])

    def test_more_than_ten_brothers(self):
        document = built(("f", *[A, F] * 12))
        self.assertEqual(document.failing("leaf"), [(), *[(place,) for place in range(1, 24, 2)]])

    def test_behind_each_call(self):
        source = random.Random(243)
        for book in naive.random_books(243, 40) + [MANY_SIGNS]:
            document = Document(book, book.signs[0])
            for _ in range(10):
                some_calls(source, document, book.signs, 1)
                wish = naive.random_wish(source, ["x", "y", "z"])
                tree = document.tree
                for path in paths_of(tree):
                    self.assertEqual(document.lot(path), lot_of(book, part_at(tree, path)))
                self.assertEqual(document.failing(wish), [
                    path for path in paths_of(tree) if not is_of(book, wish, part_at(tree, path))])
            document.undo(steps=5)
            self.assertEqual(document.lot(()), lot_of(book, document.tree))

    def test_what_is_told_may_be_changed(self):
        document = built(("f", A, B))
        document.failing("nokind").clear()
        document.failing("nokind")[0] = None
        self.assertEqual(document.failing("nokind"), [(), (0,), (1,)])


class CopyTest(CallCase):
    def test_both_go_on(self):
        document = built(("f", A, B))
        other = document.copy()
        self.assertIs(type(other), Document)
        self.assertEqual(state(other), state(document))
        other.remove((0,))
        document.add((0,), "f")
        self.assertEqual((state(document), state(other)), ((("f", ("a", F), B), 3), (("f", B), 3)))
        other.undo(steps=2)
        document.undo()
        self.assertEqual((state(document), state(other)), ((("f", A, B), 2), (("f", A), 1)))
        third = other.copy()
        third.undo()
        self.assertEqual((state(other), state(third)), ((("f", A), 1), (F, 0)))
        self.assert_raises_exactly(NothingToUndo, third.undo)
        document.undo(steps=2)
        self.assertEqual((document.lot(()), other.lot(()), other.failing("leaf")), (("even",), (), [()]))

    def test_random_copies(self):
        source = random.Random(244)
        for _ in range(40):
            document = Document(BOOK, "f")
            _, trees = some_calls(source, document, SIGNS, 8)
            other = document.copy()
            _, others = some_calls(source, other, SIGNS, 5)
            _, mine = some_calls(source, document, SIGNS, 5)
            for expected in (trees + others[1:])[-2::-1]:
                other.undo()
                self.assertEqual(other.tree, expected)
            self.assertEqual(document.tree, mine[-1])
            document.undo(steps=13)
            self.assertEqual(document.tree, trees[0])

    def test_two_documents_of_one_book(self):
        book = Book(SIGNS, RULES)
        one, other = Document(book, "f"), Document(book, "a")
        one.add((), "a")
        other.add((), "b")
        one.rename((), "b")
        self.assertEqual((state(one), state(other)), ((("b", A), 2), (("a", B), 1)))
        other.undo()
        self.assertEqual((state(one), state(other)), ((("b", A), 2), (A, 0)))
        self.assertEqual(snapshot(book), snapshot(BOOK))

    def test_by_name(self):
        document = Document(sign="f", book=BOOK)
        document.add(sign="a", path=())
        document.rename(sign="b", path=(0,))
        self.assertEqual((document.lot(path=(0,)), document.failing(wish="leaf")), (("leaf",), [()]))
        document.remove(path=(0,))
        document.undo(steps=3)
        self.assertEqual(state(document), (F, 0))


class LargeTest(CallCase):
    def test_five_thousand_brothers(self):
        begun = time.perf_counter()
        document = Document(BOOK, "f")
        for place in range(4999):
            document.add((), "ab"[place % 2])
        self.assertLess(time.perf_counter() - begun, 5)
        for call in (lambda: document.lot(()), lambda: document.failing("leaf"), document.copy,
                     lambda: document.remove((0,)), lambda: document.undo(steps=2000)):
            begun = time.perf_counter()
            call()
            self.assertLess(time.perf_counter() - begun, 1)
        self.assertEqual((len(document), len(document.tree), document.lot(())), (3000, 3001, ("even", "wide")))

    def test_forty_deep(self):
        document = Document(TWO_SIGNS, "a")
        for level in range(39):
            document.add((0,) * level, "ab"[level % 2])
            document.add((0,) * level, "b")
        begun = time.perf_counter()
        self.assertEqual(len(document.failing("nokind")), 79)
        self.assertEqual(document.lot((0,) * 39), lot_of(TWO_SIGNS, A))
        document.remove((0,))
        document.undo(steps=79 - 1)
        self.assertEqual(document.tree, ("a", A))
        self.assertLess(time.perf_counter() - begun, 1)

    def test_many_small_ones(self):
        source = random.Random(245)
        begun = time.perf_counter()
        for book in naive.random_books(246, 200):
            document = Document(book, book.signs[0])
            some_calls(source, document, book.signs, 5)
            document.failing("x")
            document.undo(steps=5)
        self.assertLess(time.perf_counter() - begun, 200 * 0.01)


if __name__ == "__main__":
    unittest.main()
