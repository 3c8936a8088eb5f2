"""Promise 2 for all calls from stage 3 on: errors and their order, arguments by name, nothing changed, all new."""

import itertools
import time
import unittest

from broodcounts.books import Book
from broodcounts.broods import brood_of, cap_and_step, grown, step
from broodcounts.errors import (
    InvalidBook, InvalidBrood, InvalidLot, InvalidLots, InvalidTree, InvalidWish, UnknownSign,
)
from broodcounts.made import is_made, least, least_size
from broodcounts.tables import is_table, lots, table
from broodcounts.trees import is_tree
from broodcounts.wishes import is_of, is_wish, is_wished, lot_of
from tests.support import (
    A, BOOK, MANY_SIGNS, NO_WISHES, RULES, SIGNS, TWO_SIGNS, CallCase, nested, odd_objects, snapshot,
)

TREE = ("f", ("f", A, A), ("b",), A)
WISH = ("and", "even", ("not", ("or", "wide", "nokind")))
BROOD = ((0, 0), (2, 0), (1, 1), (3, 1))
# Each call, its arguments in order, and the errors listed for them, in the order in which they are listed.
CALLS = [
    (is_wish, {"thing": WISH}, {}),
    (is_wished, {"wish": WISH, "lot": ("even",)}, {"wish": InvalidWish, "lot": InvalidLot}),
    (lot_of, {"book": BOOK, "tree": TREE}, {"book": InvalidBook, "tree": InvalidTree}),
    (is_of, {"book": BOOK, "wish": WISH, "tree": TREE},
     {"book": InvalidBook, "wish": InvalidWish, "tree": InvalidTree}),
    (cap_and_step, {"book": BOOK}, {"book": InvalidBook}),
    (brood_of, {"book": BOOK, "lots": [("leaf",), ("even", "wide")]}, {"book": InvalidBook, "lots": InvalidLots}),
    (grown, {"book": BOOK, "brood": BROOD, "lot": ("even", "leaf")},
     {"book": InvalidBook, "brood": InvalidBrood, "lot": InvalidLot}),
    (step, {"book": BOOK, "sign": "f", "brood": BROOD},
     {"book": InvalidBook, "sign": UnknownSign, "brood": InvalidBrood}),
    (lots, {"book": BOOK}, {"book": InvalidBook}),
    (table, {"book": BOOK}, {"book": InvalidBook}),
    (is_table, {"book": BOOK, "thing": table(BOOK)}, {"book": InvalidBook}),
    (is_made, {"book": BOOK, "wish": WISH}, {"book": InvalidBook, "wish": InvalidWish}),
    (least_size, {"book": BOOK, "wish": WISH}, {"book": InvalidBook, "wish": InvalidWish}),
    (least, {"book": BOOK, "wish": WISH}, {"book": InvalidBook, "wish": InvalidWish}),
]
# Odd objects that are right for an argument after all.
RIGHT = {
    "book": lambda thing: isinstance(thing, Book),
    "wish": lambda thing: thing in ("a", "abcdefgh"),
    "tree": lambda thing: is_tree(SIGNS, thing),
    "lot": lambda thing: thing in ((), ("z",)),
    "lots": lambda thing: isinstance(thing, list) and all(part == () for part in thing),
    "sign": lambda thing: thing == "a",
    "brood": lambda thing: False,
}
MORE = {
    "book": [(SIGNS, RULES), [SIGNS, RULES], [BOOK], (BOOK,), Book],
    "wish": NO_WISHES,
    "tree": [("f", A, None), ("f", (None,)), ("f", A, [A]), ("z",), ("f", ("f", ("f", ("z",)))), (BOOK, A)],
    "lot": [["leaf"], ("leaf", "even"), ("leaf", "leaf"), ("even", "Leaf"), ("even", None), (("even",),), "leaf",
            {"leaf": True}, (BOOK,), ("even", True), (["even"],)],
    "lots": [("leaf",), [["leaf"]], [("leaf", "even")], [("leaf", "leaf")], [("leaf",), None], [("leaf",), "leaf"],
             ["leaf"], (("leaf",),), [("nokind",)], [("leaf",), ("even", "nokind")], {"leaf": ()}, [(BOOK,)]],
    "sign": ["z", "F", "", ("f",), ["f"], None, 0, SIGNS],
    "brood": [(), BROOD[:3], (*BROOD, (0, 0)), list(BROOD), ((0, 0), (2, 0), (1, 1), [3, 1]), (BROOD,)],
}


def wrong_things(name):
    return MORE[name] + [thing for thing in odd_objects() if not RIGHT[name](thing)]


class ErrorsTest(CallCase):
    def test_each_wrong_argument_by_any_object(self):
        for call, passed, errors in CALLS:
            for name, error in errors.items():
                self.assert_each_raises(error, lambda thing: call(**{**passed, name: thing}), wrong_things(name))

    def test_of_several_errors_the_first_one_listed(self):
        for call, passed, errors in CALLS:
            for many in range(2, len(errors) + 1):
                for names in itertools.combinations(errors, many):
                    for thing in (None, True, [[]], {}, nested(60, lambda part: (part,))):
                        wrong = {**passed, **{name: thing for name in names}}
                        with self.subTest(call=call.__name__, names=names, thing=repr(thing)[:40]):
                            self.assert_raises_exactly(errors[names[0]], call, *wrong.values())

    def test_any_object_where_any_object_is_accepted(self):
        for call, passed, _ in CALLS:
            if "thing" in passed and call is not is_wish:
                self.assert_each_false(lambda thing: call(**{**passed, "thing": thing}), odd_objects())


class ArgumentsTest(CallCase):
    def test_by_name_in_another_order(self):
        for call, passed, _ in CALLS:
            turned = dict(reversed(list(passed.items())))
            self.assertEqual(snapshot(call(**turned)), snapshot(call(*passed.values())))

    def test_arguments_stay_as_they_are(self):
        for call, passed, errors in CALLS:
            self.assert_leaves_unchanged(call, *passed.values())
            for name in errors:
                for thing in MORE[name]:
                    self.assert_leaves_unchanged(call, *{**passed, name: thing}.values())

    def test_what_is_told_may_be_changed(self):
        for call, passed, _ in CALLS:
            first = call(**passed)
            expected = snapshot(first)
            self.spoil(first)
            self.assertEqual(snapshot(call(**passed)), expected, call.__name__)

    def spoil(self, thing):
        """Change each list within; each stands there once."""
        if isinstance(thing, (list, tuple)):
            for part in thing:
                self.spoil(part)
        if isinstance(thing, list):
            thing.reverse()
            thing.append("spoiled")
            del thing[0]

    def test_lists_stand_once(self):
        for call, passed, _ in CALLS:
            found = self.lists_in(call(**passed))
            self.assertEqual(len({id(thing) for thing in found}), len(found))

    def lists_in(self, thing):
        if not isinstance(thing, (list, tuple)):
            return []
        return ([thing] if isinstance(thing, list) else []) + [row for part in thing for row in self.lists_in(part)]

    def test_a_book_that_was_asked_is_the_same_book(self):
        book = Book(SIGNS, RULES)
        for call, passed, _ in CALLS:
            if "book" in passed:
                call(**{**passed, "book": book})
        self.assertEqual(snapshot(book), snapshot(Book(SIGNS, RULES)))
        self.assertEqual(book, Book(SIGNS, RULES))

    def test_a_book_copies_what_it_is_made_of(self):
        signs, rules = list(SIGNS), list(RULES)
        book = Book(signs, rules)
        signs.reverse()
        rules.clear()
        self.assertEqual(lots(book), lots(BOOK))
        book.rules.clear()
        book.kinds.clear()
        book.signs.clear()
        self.assertEqual((lots(book), lot_of(book, TREE)), (lots(BOOK), lot_of(BOOK, TREE)))


class BoundsTest(CallCase):
    def test_calls_at_the_bounds_end_soon(self):
        wish = ("or", ("and", "x", ("not", "y")), ("and", "y", ("not", ("or", "z", "x"))))
        for book in (MANY_SIGNS, TWO_SIGNS):
            for tree in (("b", *[A] * 4999), ("b", *[self.deep(39)] * 128)):
                told = {"wish": wish, "sign": "b", "brood": table(book)[1][-1], "lot": ("x", "z"), "tree": tree,
                        "lots": lots(book) * 600, "thing": table(book)}
                for call, names, _ in CALLS:
                    fresh = {**told, "book": Book(book.signs, book.rules)}
                    begun = time.perf_counter()
                    call(**{name: fresh[name] for name in names})
                    self.assertLess(time.perf_counter() - begun, 1, call.__name__)

    def deep(self, levels):
        tree = ("a",)
        for _ in range(levels - 1):
            tree = ("b", tree)
        return tree


if __name__ == "__main__":
    unittest.main()
