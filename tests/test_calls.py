"""Promise 2 for all functions: errors and their order, arguments by name, nothing changed, all new."""

import itertools
import random
import time
import unittest

from broodcounts.beside import are_alike, holds, parting
from broodcounts.books import Book, is_ask, is_fit, is_rule
from broodcounts.broods import brood_of, cap_and_step, grown, step
from broodcounts.counting import count, listed, place_of, tree_at
from broodcounts.document import Document
from broodcounts.endless import all_trees, growth, is_finite, is_growth
from broodcounts.errors import (
    BroodError, InvalidAsk, InvalidBook, InvalidBrood, InvalidFrame, InvalidKind, InvalidLot, InvalidLots, InvalidMatch,
    InvalidNet, InvalidNumber, InvalidRule, InvalidRules, InvalidSigns, InvalidTree, InvalidWish, ParseError, TooMany,
    UnknownSign,
)
from broodcounts.made import is_made, least, least_size
from broodcounts.mending import least_added, least_taken
from broodcounts.met import never_met, numbers_met
from broodcounts.needless import needless_asks, needless_rules, without_ask, without_rule
from broodcounts.nets import is_net, net_lots, net_of, net_sizes, same_nodes, tree_of
from broodcounts.reader import Reader
from broodcounts.surroundings import are_kin, filled, is_frame, is_parter, kin_classes, parter
from broodcounts.tables import is_table, lots, table
from broodcounts.texts import (
    format_book, format_rule, format_tree, format_wish, parse_book, parse_rule, parse_tree, parse_wish,
)
from broodcounts.trees import alike, depth, is_signs, is_tree, parts, plain, size, trees_of_size
from broodcounts.wishes import is_of, is_wish, is_wished, lot_of
from tests.support import (
    A, BOOK, MANY_SIGNS, NO_WISHES, RULES, SIGNS, TWO_SIGNS, CallCase, nested, odd_objects, snapshot,
)
from tests.test_trees import NO_SIGNS

TREE = ("f", ("f", A, A), ("b",), A)
WISH = ("and", "even", ("not", ("or", "wide", "nokind")))
BROOD = ((0, 0), (2, 0), (1, 1), (3, 1))
FRAME = ("f", None, ("f", ("b",), None), A)
OTHER = Book(SIGNS[::-1], RULES[:3])
# Trees at the bounds: five thousand places in all, or forty deep.
WIDE = ("b", *[A] * 4999)
DEEP = ("b", *[nested(39, lambda part: ("b", part) if part else A)] * 128)
# Each call, its arguments in order, and the errors listed for them, in the order in which they are listed.
ASKED = {"book": InvalidBook, "wish": InvalidWish}
PAIR = {**ASKED, "one": InvalidTree, "other": InvalidTree}
BOTH = {"one": InvalidBook, "wish": InvalidWish, "other": InvalidBook, "other_wish": InvalidWish}
ON_TREE = {"signs": InvalidSigns, "tree": InvalidTree}
ON_NET = {"signs": InvalidSigns, "net": InvalidNet}
NET = [("a", ()), ("b", ()), ("f", ((0, 3), (1, 2))), ("a", ((0, 1), (1, 1), (2, 2)))]
CALLS = [
    (is_signs, {"thing": SIGNS}, {}),
    (is_tree, {"signs": SIGNS, "thing": TREE}, {"signs": InvalidSigns}),
    (plain, {"signs": SIGNS, "tree": TREE}, ON_TREE),
    (size, {"signs": SIGNS, "tree": TREE}, ON_TREE),
    (depth, {"signs": SIGNS, "tree": TREE}, ON_TREE),
    (parts, {"signs": SIGNS, "tree": TREE}, ON_TREE),
    (alike, {"signs": SIGNS, "one": TREE, "other": ("f", A, ("b",), ("f", A, A))},
     {"signs": InvalidSigns, "one": InvalidTree, "other": InvalidTree}),
    (trees_of_size, {"signs": SIGNS, "size": 3}, {"signs": InvalidSigns, "size": InvalidNumber}),
    (is_ask, {"thing": ("k", 0, 4, 2, 1)}, {}),
    (is_fit, {"ask": ("k", 0, 4, 2, 1), "number": 3}, {"ask": InvalidAsk, "number": InvalidNumber}),
    (is_rule, {"signs": SIGNS, "thing": RULES[2]}, {"signs": InvalidSigns}),
    (Book, {"signs": SIGNS, "rules": RULES}, {"signs": InvalidSigns, "rules": InvalidRules}),
    (is_wish, {"thing": WISH}, {}),
    (is_wished, {"wish": WISH, "lot": ("even",)}, {"wish": InvalidWish, "lot": InvalidLot}),
    (lot_of, {"book": BOOK, "tree": TREE}, {"book": InvalidBook, "tree": InvalidTree}),
    (is_of, {"book": BOOK, "wish": WISH, "tree": TREE}, {**ASKED, "tree": InvalidTree}),
    (cap_and_step, {"book": BOOK}, {"book": InvalidBook}),
    (brood_of, {"book": BOOK, "lots": [("leaf",), ("even", "wide")]}, {"book": InvalidBook, "lots": InvalidLots}),
    (grown, {"book": BOOK, "brood": BROOD, "lot": ("even", "leaf")},
     {"book": InvalidBook, "brood": InvalidBrood, "lot": InvalidLot}),
    (step, {"book": BOOK, "sign": "f", "brood": BROOD},
     {"book": InvalidBook, "sign": UnknownSign, "brood": InvalidBrood}),
    (lots, {"book": BOOK}, {"book": InvalidBook}),
    (table, {"book": BOOK}, {"book": InvalidBook}),
    (is_table, {"book": BOOK, "thing": table(BOOK)}, {"book": InvalidBook}),
    (is_made, {"book": BOOK, "wish": WISH}, ASKED),
    (least_size, {"book": BOOK, "wish": WISH}, ASKED),
    (least, {"book": BOOK, "wish": WISH}, ASKED),
    (is_finite, {"book": BOOK, "wish": WISH}, ASKED),
    (all_trees, {"book": BOOK, "wish": "leaf"}, ASKED),
    (growth, {"book": BOOK, "wish": "wide"}, ASKED),
    (growth, {"book": BOOK, "wish": "even"}, ASKED),
    (is_growth, {"book": BOOK, "wish": "wide", "thing": ("wide", ("f", A, A, A, A), [A, ("b",)], None)}, ASKED),
    (holds, {"one": BOOK, "wish": "even", "other": OTHER, "other_wish": WISH}, BOTH),
    (parting, {"one": BOOK, "wish": "even", "other": OTHER, "other_wish": WISH}, BOTH),
    (are_alike, {"one": BOOK, "wish": "even", "other": OTHER, "other_wish": WISH}, BOTH),
    (count, {"book": BOOK, "wish": WISH, "size": 5}, {**ASKED, "size": InvalidNumber}),
    (listed, {"book": BOOK, "wish": WISH, "size": 3}, {**ASKED, "size": InvalidNumber}),
    (tree_at, {"book": BOOK, "wish": WISH, "size": 3, "index": 2},
     {**ASKED, "size": InvalidNumber, "index": InvalidNumber}),
    (place_of, {"book": BOOK, "wish": WISH, "tree": ("f", ("b",), A)}, {**ASKED, "tree": InvalidTree}),
    (is_frame, {"signs": SIGNS, "thing": FRAME}, {"signs": InvalidSigns}),
    (filled, {"signs": SIGNS, "frame": FRAME, "tree": TREE},
     {"signs": InvalidSigns, "frame": InvalidFrame, "tree": InvalidTree}),
    (parter, {"book": BOOK, "wish": "wide", "one": A, "other": TREE}, PAIR),
    (is_parter, {"book": BOOK, "wish": "wide", "one": A, "other": TREE, "thing": ("f", A, None, A)}, PAIR),
    (are_kin, {"book": BOOK, "wish": "wide", "one": A, "other": TREE}, PAIR),
    (kin_classes, {"book": BOOK, "wish": "wide"}, ASKED),
    (without_rule, {"book": BOOK, "index": 1}, {"book": InvalidBook, "index": InvalidNumber}),
    (without_ask, {"book": BOOK, "index": 2, "ask": 1},
     {"book": InvalidBook, "index": InvalidNumber, "ask": InvalidNumber}),
    (needless_rules, {"book": BOOK, "wish": "leaf"}, ASKED),
    (needless_asks, {"book": BOOK, "wish": "leaf"}, ASKED),
    (least_added, {"book": BOOK, "wish": "wide", "tree": ("f", ("f", A), A)}, {**ASKED, "tree": InvalidTree}),
    (least_taken, {"book": BOOK, "wish": "even", "tree": ("f", ("f",), A, ("f",))}, {**ASKED, "tree": InvalidTree}),
    (numbers_met, {"book": BOOK, "wish": "even", "sign": "f", "kind": "leaf"},
     {**ASKED, "sign": UnknownSign, "kind": InvalidKind}),
    (never_met, {"book": BOOK, "wish": "leaf"}, ASKED),
    (Reader, {"book": BOOK}, {"book": InvalidBook}),
    (is_net, {"signs": SIGNS, "thing": NET}, {"signs": InvalidSigns}),
    (net_sizes, {"signs": SIGNS, "net": NET}, ON_NET),
    (same_nodes, {"signs": SIGNS, "net": NET}, ON_NET),
    (net_lots, {"book": BOOK, "net": NET}, {"book": InvalidBook, "net": InvalidNet}),
    (net_of, {"signs": SIGNS, "tree": TREE}, ON_TREE),
    (tree_of, {"signs": SIGNS, "net": NET}, ON_NET),
    (Document, {"book": BOOK, "sign": "f"}, {"book": InvalidBook, "sign": UnknownSign}),
    (format_tree, {"signs": SIGNS, "tree": TREE}, ON_TREE),
    (format_rule, {"signs": SIGNS, "rule": RULES[2]}, {"signs": InvalidSigns, "rule": InvalidRule}),
    (format_wish, {"wish": WISH}, {"wish": InvalidWish}),
    (format_book, {"book": BOOK}, {"book": InvalidBook}),
    (parse_tree, {"signs": SIGNS, "text": "f(f(a,b),a)"}, {"signs": InvalidSigns, "text": ParseError}),
    (parse_rule, {"signs": SIGNS, "text": "k = a *:0-1@2+1"}, {"signs": InvalidSigns, "text": ParseError}),
    (parse_wish, {"text": "and x not 'or"}, {"text": ParseError}),
    (parse_book, {"text": "signs a\nk = a *:0-0"}, {"text": ParseError}),
]
# Odd objects that are right for an argument after all.
RIGHT = {
    InvalidSigns: is_signs,
    InvalidBook: lambda thing: isinstance(thing, Book),
    InvalidWish: lambda thing: thing in ("a", "abcdefgh"),
    InvalidTree: lambda thing: is_tree(SIGNS, thing),
    InvalidFrame: lambda thing: thing is None or repr(thing).startswith("('a', ('a', ("),
    InvalidLot: lambda thing: thing in ((), ("z",)),
    InvalidLots: lambda thing: isinstance(thing, list) and all(part == () for part in thing),
    InvalidNumber: lambda thing: isinstance(thing, int) and not isinstance(thing, bool),
    UnknownSign: lambda thing: thing == "a",
    InvalidBrood: lambda thing: False,
    InvalidAsk: lambda thing: False,
    InvalidRules: lambda thing: thing == [],
    InvalidKind: lambda thing: thing in (None, "a", "abcdefgh"),
    InvalidNet: lambda thing: False,
    InvalidRule: lambda thing: False,
    ParseError: lambda thing: thing in ("a", "abcdefgh"),
}
MORE = {
    InvalidSigns: NO_SIGNS,
    InvalidBook: [(SIGNS, RULES), [SIGNS, RULES], [BOOK], (BOOK,), Book],
    InvalidWish: NO_WISHES,
    InvalidTree: [("f", A, None), ("f", (None,)), ("f", A, [A]), ("z",), ("f", ("f", ("f", ("z",)))), (BOOK, A), FRAME],
    InvalidFrame: [A, TREE, ("f", [None]), ("z", None), ("f", None, ("z",)), ("f", None, ()), (None,), ["f", None],
                   (None, None), ("f", ("f", None), ("f", (None, A)))],
    InvalidLot: [["leaf"], ("leaf", "even"), ("leaf", "leaf"), ("even", "Leaf"), ("even", None), (("even",),), "leaf",
                 {"leaf": True}, (BOOK,), ("even", True), (["even"],)],
    InvalidLots: [("leaf",), [["leaf"]], [("leaf", "even")], [("leaf", "leaf")], [("leaf",), None], [("leaf",), "leaf"],
                  ["leaf"], (("leaf",),), [("nokind",)], [("leaf",), ("even", "nokind")], {"leaf": ()}, [(BOOK,)]],
    InvalidNumber: [-1, -(10 ** 39), True, False, None, "1", [1], (1,)],
    InvalidAsk: [("k", 3, 2, 1, 0), ["k", 0, 4, 2, 1], ("k", 0, 4, 2), ("k", 0, 4, 2, 1, 0), ("K", 0, 4, 2, 1),
                 ("k", True, 4, 2, 1), ("k", 0, 6, 2, 1), ("k", 0, 4, 4, 1), ("k", 0, 4, 0, 0), ("k", 0, 4, 2, 2)],
    InvalidRules: [tuple(RULES), [RULES], [list(RULES[0])], RULES + [None], RULES + [("k", "z", ())], [("k", "a")],
                   [("k", "a", [])], [("k", "a", (("k", 0, 4, 2),))], RULES * 51, {"a": RULES}, Book(SIGNS, RULES)],
    InvalidNet: [[], tuple(NET), NET[::-1], NET[2:], [*NET, None], [None, *NET], [list(NET[0])], [("z", ())], [("a", [])],
                 NET + [("f", ((0, 0),))], NET + [("f", ((0, True),))], NET + [("f", ((1, 1), (0, 1)))],
                 NET + [("f", ((4, 1),))], NET + [("f", ((-1, 1),))], NET + [("f", ((True, 1),))], NET * 51],
    InvalidRule: ["k = a", (), RULES[2][:2], list(RULES[2]), (*RULES[2], ()), ("k", "z", ()), ("K", "a", ()), RULES,
                  ("k", "a", [])],
    ParseError: ["", " ", "f(", "f()", "f(a,b", "a b", "and", "not", "k =", "signs ", "signs A", "\n", "f(f(a,b),a) ",
                 ["a"], ("a",), b"a"],
    InvalidKind: ["", "abcdefghi", "Leaf", "a b", True, 3, ("leaf",), ["leaf"], {"leaf": None}, BOOK],
    UnknownSign: ["z", "F", "", ("f",), ["f"], None, 0, SIGNS],
    InvalidBrood: [(), BROOD[:3], (*BROOD, (0, 0)), list(BROOD), ((0, 0), (2, 0), (1, 1), [3, 1]), (BROOD,)],
}
# Odd objects that a call which judges objects accepts.
ACCEPTED = {
    is_signs: lambda thing: thing in (["a"], ["ab"]), is_frame: RIGHT[InvalidFrame], is_tree: RIGHT[InvalidTree],
    is_wish: RIGHT[InvalidWish],
}


def wrong_things(error):
    return MORE[error] + [thing for thing in odd_objects() if not RIGHT[error](thing)]


class ErrorsTest(CallCase):
    def test_each_wrong_argument_by_any_object(self):
        for call, passed, errors in CALLS:
            for name, error in errors.items():
                self.assert_each_raises(error, lambda thing: call(**{**passed, name: thing}), wrong_things(error))

    def test_of_several_errors_the_first_one_listed(self):
        for call, passed, errors in CALLS:
            for many in range(2, len(errors) + 1):
                for names in itertools.combinations(errors, many):
                    for thing in (True, [[]], {}, nested(60, lambda part: (part,))):
                        wrong = {**passed, **{name: thing for name in names}}
                        with self.subTest(call=call.__name__, names=names, thing=repr(thing)[:40]):
                            self.assert_raises_exactly(errors[names[0]], call, *wrong.values())

    def test_numbers_that_are_too_great(self):
        for call, passed, errors in CALLS:
            for name in [name for name, error in errors.items() if error is InvalidNumber and call is not is_fit]:
                self.assert_each_raises(InvalidNumber, lambda thing: call(**{**passed, name: thing}), [21, 10 ** 39])

    def test_any_object_where_any_object_is_accepted(self):
        for call, passed, _ in CALLS:
            if "thing" in passed:
                right = ACCEPTED.get(call, lambda thing: False)
                things = [thing for thing in odd_objects() if not right(thing)]
                self.assert_each_false(lambda thing: call(**{**passed, "thing": thing}), things)


def near(source, thing):
    """An object like another one: a part of it left out, put in, doubled, exchanged, or of another kind."""
    if isinstance(thing, (list, tuple)) and thing and source.random() < 0.85:
        at = source.randrange(len(thing))
        parts = list(thing)
        change = source.choice(["within", "within", "within", "out", "in", "double", "turn"])
        if change == "within":
            parts[at] = near(source, thing[at])
        elif change == "turn":
            parts.reverse()
        else:
            parts[at:at + 1] = {"out": [], "in": [odd(source), thing[at]], "double": [thing[at]] * 2}[change]
        return type(thing)(parts)
    if isinstance(thing, str) and thing and source.random() < 0.7:
        at = source.randrange(len(thing))
        return thing[:at] + source.choice(["", "A", "a", " ", thing[at] * 2, "\n", "(", "9"]) + thing[at + 1:]
    if isinstance(thing, int) and not isinstance(thing, bool) and source.random() < 0.7:
        return source.choice([thing - 1, thing + 1, -thing, bool(thing), str(thing), 10 ** 39])
    if isinstance(thing, (list, tuple)) and source.random() < 0.7:
        return source.choice([list, tuple, str])(thing)
    return odd(source)


def odd(source):
    return source.choice([None, True, False, 0, -1, 10 ** 39, "", "a", "A", (), [], {}, ("a",), ["a"], BOOK, Reader(BOOK)])


# Whether an object is right for an argument, if the arguments before it are right.
JUDGES = {
    InvalidSigns: lambda passed, thing: is_signs(thing), InvalidBook: lambda passed, thing: isinstance(thing, Book),
    InvalidWish: lambda passed, thing: is_wish(thing), InvalidAsk: lambda passed, thing: is_ask(thing),
    InvalidTree: lambda passed, thing: is_tree(signs_in(passed), thing),
    InvalidFrame: lambda passed, thing: is_frame(signs_in(passed), thing),
    InvalidNet: lambda passed, thing: is_net(signs_in(passed), thing),
    InvalidRule: lambda passed, thing: is_rule(signs_in(passed), thing),
    InvalidRules: lambda passed, thing: isinstance(thing, list) and len(thing) <= 200 and all(
        is_rule(signs_in(passed), rule) for rule in thing),
    UnknownSign: lambda passed, thing: any(sign == thing for sign in signs_in(passed)),
    InvalidKind: lambda passed, thing: thing is None or isinstance(thing, str) and is_wish(thing),
}


def signs_in(passed):
    return passed["signs"] if "signs" in passed else passed["book"].signs


def errors_of(call, passed, errors):
    """The errors that a call may raise, and whether it must raise one of them."""
    found = []
    for name, error in errors.items():
        if error not in JUDGES or (call, error) == (place_of, InvalidTree):
            found.append(error)
        elif not JUDGES[error](passed, passed[name]):
            return (*found, error), True
    return (*found, TooMany, InvalidMatch), False


class NearTest(CallCase):
    """Things that are nearly right are refused by the first error listed for them, or right after all."""

    def test_arguments_that_are_nearly_right(self):
        source = random.Random(21)
        for call, passed, errors in CALLS:
            for _ in range(150):
                names = source.sample(list(passed), min(source.choice([1, 1, 2, 3]), len(passed)))
                wrong = {**passed, **{name: near(source, passed[name]) for name in names}}
                before = snapshot(list(wrong.values()))
                expected, must = errors_of(call, wrong, errors)
                with self.subTest(call=call.__name__, wrong=repr(wrong)[:200]):
                    try:
                        told = call(**wrong)
                    except BroodError as error:
                        self.assertIn(type(error), expected)
                    else:
                        self.assertFalse(must)
                        self.assertTrue("thing" not in passed or type(told) is bool)
                    self.assertEqual(snapshot(list(wrong.values())), before)


class ArgumentsTest(CallCase):
    def test_by_name_in_another_order(self):
        for call, passed, _ in CALLS:
            turned = dict(reversed(list(passed.items())))
            self.assertEqual(snapshot(call(**turned)), snapshot(call(*passed.values())))

    def test_arguments_stay_as_they_are(self):
        for call, passed, errors in CALLS:
            self.assert_leaves_unchanged(call, *passed.values())
            for name, error in errors.items():
                for thing in MORE[error]:
                    self.assert_leaves_unchanged(call, *{**passed, name: thing}.values())

    def test_what_is_told_may_be_changed(self):
        for call, passed, _ in CALLS:
            first = call(**passed)
            expected = snapshot(first)
            self.spoil(first)
            self.assertEqual(snapshot(call(**passed)), expected, call.__name__)

    def spoil(self, thing):
        """Change each list within; each stands there once."""
        if isinstance(thing, (list, tuple)):
            for part in thing:
                self.spoil(part)
        if isinstance(thing, list):
            thing.reverse()
            thing.append("spoiled")
            del thing[0]

    def test_lists_stand_once(self):
        for call, passed, _ in CALLS:
            found = self.lists_in(call(**passed))
            self.assertEqual(len({id(thing) for thing in found}), len(found))

    def lists_in(self, thing):
        if not isinstance(thing, (list, tuple)):
            return []
        return ([thing] if isinstance(thing, list) else []) + [row for part in thing for row in self.lists_in(part)]

    def test_a_book_that_was_asked_is_the_same_book(self):
        book = Book(SIGNS, RULES)
        for call, passed, _ in CALLS:
            call(**{name: book if thing is BOOK else thing for name, thing in passed.items()})
        self.assertEqual(snapshot(book), snapshot(Book(SIGNS, RULES)))
        self.assertEqual(book, Book(SIGNS, RULES))

    def test_a_book_copies_what_it_is_made_of(self):
        signs, rules = list(SIGNS), list(RULES)
        book = Book(signs, rules)
        signs.reverse()
        rules.clear()
        self.assertEqual(lots(book), lots(BOOK))
        book.rules.clear()
        book.kinds.clear()
        book.signs.clear()
        self.assertEqual((lots(book), lot_of(book, TREE)), (lots(BOOK), lot_of(BOOK, TREE)))


class BoundsTest(CallCase):
    def check(self, call, *passed):
        begun = time.perf_counter()
        try:
            told = call(*passed)
        except TooMany:
            told = None
        self.assertLess(time.perf_counter() - begun, 1, call.__name__)
        return told

    def test_calls_at_the_bounds_end_soon(self):
        wish = ("or", ("and", "x", ("not", "y")), ("and", "y", ("not", ("or", "z", "x"))))
        for same in (MANY_SIGNS, TWO_SIGNS):
            told, brood = table(same), table(same)[1][-1]
            frame = ("b", *[None] * 4999)
            for call, *passed in [
                (cap_and_step,), (brood_of, lots(same) * 600), (grown, brood, ("x", "z")), (step, "b", brood), (lots,),
                (table,), (is_table, told), (is_made, wish), (least_size, wish), (least, wish), (is_finite, wish),
                (all_trees, wish), (growth, wish), (is_growth, wish, ("deep", WIDE, frame, frame)),
                (is_growth, wish, ("wide", DEEP, [DEEP] * 6, frame)), (count, wish, 20), (listed, wish, 3),
                (listed, wish, 12), (tree_at, wish, 3, 0), (tree_at, wish, 12, 0), (place_of, ("not", "no"), A),
                (parter, wish, WIDE, DEEP), (is_parter, wish, WIDE, DEEP, ("b", *[A] * 4998, None)),
                (are_kin, wish, WIDE, DEEP), (kin_classes, wish), (lot_of, WIDE), (lot_of, DEEP), (is_of, wish, DEEP),
            ]:
                self.check(call, Book(same.signs, same.rules), *passed)
            self.check(filled, same.signs, frame, DEEP)
            self.check(is_frame, same.signs, frame)

    def test_two_books_at_the_bounds(self):
        one = Book(["a", "b"], [("x", "a", (("y", 1, 5, 2, 1),)), ("y", "b", (("x", 0, 4, 3, 1), (None, 1, None, 1, 0)))])
        other = Book(["b", "a"], [("x", "b", (("x", 0, 2, 1, 0),)), ("z", "a", ((None, 5, None, 1, 0),))])
        for call in (holds, parting, are_alike):
            self.check(call, one, ("or", "x", "y"), other, ("not", "x"))
            self.check(call, TWO_SIGNS, "x", Book(["a", "b"], []), "x")
            self.check(call, MANY_SIGNS, "x", Book(MANY_SIGNS.signs, [("x", "a", ())]), ("not", "x"))

    def test_what_is_filled_may_be_greater(self):
        frame = ("b", *[nested(39, lambda part: ("b", part))] * 128)
        whole = self.check(filled, ["a", "b"], frame, DEEP)
        self.assertEqual((len(whole), whole[1]), (129, whole[128]))
        self.check(is_growth, TWO_SIGNS, "x", ("deep", DEEP, frame, frame))
        self.check(is_parter, TWO_SIGNS, "x", DEEP, WIDE, nested(39, lambda part: ("b", part)))


if __name__ == "__main__":
    unittest.main()
