"""Promise 2: what holds for all calls."""

import unittest

from broodcounts.basics import is_name, is_number
from broodcounts.books import Book, is_ask, is_fit, is_rule
from broodcounts.errors import BroodError, InvalidAsk, InvalidNumber, InvalidRules, InvalidSigns, InvalidTree
from broodcounts.trees import alike, depth, is_signs, is_tree, parts, plain, size, trees_of_size
from tests.support import A, B, RULES, SIGNS, CallCase, chain, odd_objects

CALLS = [
    (is_signs, 1), (is_tree, 2), (plain, 2), (size, 2), (depth, 2), (parts, 2), (alike, 3), (trees_of_size, 2),
    (is_ask, 1), (is_fit, 2), (is_rule, 2), (Book, 2),
]
TREE = ("f", ("f", B, A), B, A)
ASK = ("k", 0, 4, 2, 1)


class NamesAndNumbersTest(CallCase):
    def test_names(self):
        self.assert_each_true(is_name, ["a", "z", "abcdefgh", "zz"])
        self.assert_each_false(is_name, ["", "abcdefghi", "A", "aB", "a b", "a1", "a_", "`", "{", "a\n", ["a"],
                                         ("a",), None, 1, True, {"a": "a"}, chr(0xE9), chr(0x430)])

    def test_integers_are_no_bools(self):
        self.assert_each_true(lambda thing: is_number(thing, 0, 1), [0, 1])
        self.assert_each_false(lambda thing: is_number(thing, 0, 1), [True, False, -1, 2, None, "0", [0], 0.0])
        self.assert_each_true(lambda thing: is_number(thing, 1, None), [1, 10 ** 40])
        self.assert_each_false(lambda thing: is_number(thing, 1, None), [True, 0, -1])


class AnyObjectTest(CallCase):
    def test_no_other_error(self):
        for call, places in CALLS:
            for thing in odd_objects():
                for other in (SIGNS, A, ASK, thing):
                    for passed in ([thing, other, thing], [other, thing, other]):
                        try:
                            call(*passed[:places])
                        except BroodError:
                            pass

    def test_books_are_no_trees(self):
        book = Book(SIGNS, RULES)
        self.assertIs(is_tree(SIGNS, ("f", (book,))), False)
        self.assertIs(is_rule(SIGNS, (book, book, book)), False)
        self.assert_raises_exactly(InvalidSigns, Book, book, book)
        self.assert_raises_exactly(InvalidRules, Book, SIGNS, book)


class FirstErrorTest(CallCase):
    def test_the_first_one_listed_is_raised(self):
        for call, passed, error in [
            (is_tree, ([], None), InvalidSigns), (plain, (["A"], None), InvalidSigns),
            (size, (None, ()), InvalidSigns), (depth, (("a",), ()), InvalidSigns), (parts, ([], []), InvalidSigns),
            (alike, ([], None, None), InvalidSigns), (alike, (SIGNS, None, A), InvalidTree),
            (alike, (SIGNS, A, None), InvalidTree), (trees_of_size, (["a", "a"], True), InvalidSigns),
            (trees_of_size, (list("abcdefgh"), 13), InvalidNumber), (is_fit, (None, True), InvalidAsk),
            (is_rule, (None, None), InvalidSigns), (Book, (None, None), InvalidSigns),
            (Book, (["A"], [None]), InvalidSigns),
        ]:
            self.assert_raises_exactly(error, call, *passed)


class ArgumentsTest(CallCase):
    def test_arguments_stay_as_they_are(self):
        signs = ["f", "b", "a"]
        for call, passed in [
            (is_signs, (signs,)), (is_tree, (signs, TREE)), (plain, (signs, TREE)), (size, (signs, TREE)),
            (depth, (signs, TREE)), (parts, (signs, TREE)), (alike, (signs, TREE, ("f", A, B))),
            (trees_of_size, (signs, 3)), (is_ask, (ASK,)), (is_fit, (ASK, 3)), (is_rule, (signs, RULES[0])),
            (Book, (signs, RULES[::-1])),
        ]:
            self.assert_leaves_unchanged(call, *passed)

    def test_wrong_arguments_stay_as_they_are(self):
        for call, places in CALLS:
            for passed in [
                (["b", "a", "a"], [A, [B, A]], [A]), (["b", "a"], ["b", ["a"], None], ["a"]),
                ({"b": ["a"], "a": []}, {"a": "b"}, {}), (["b", "a"], [("k", "b", [["k", True]])], []),
                (["b", "a"], ("b", ["b", "a"], [B, A]), ("b", [])),
            ]:
                self.assert_leaves_unchanged(call, *passed[:places])

    def test_lists_that_are_returned_are_new(self):
        for told in (
            lambda: parts(SIGNS, TREE), lambda: trees_of_size(SIGNS, 1), lambda: trees_of_size(SIGNS, 3),
        ):
            first = told()
            expected = list(first)
            first.append(None)
            first[0] = None
            self.assertEqual(told(), expected)
        book = Book(SIGNS, RULES)
        for told in (lambda: book.signs, lambda: book.rules, lambda: book.kinds):
            self.assertIsNot(told(), told())


class NamedTest(CallCase):
    def test_parameters_by_name(self):
        self.assertIs(is_signs(thing=SIGNS), True)
        self.assertIs(is_tree(thing=A, signs=SIGNS), True)
        self.assertEqual(plain(tree=("f", B, A), signs=SIGNS), ("f", A, B))
        self.assertEqual(size(tree=TREE, signs=SIGNS), 6)
        self.assertEqual(depth(tree=TREE, signs=SIGNS), 3)
        self.assertEqual(parts(tree=("f", A), signs=SIGNS), [A, ("f", A)])
        self.assertIs(alike(other=("f", B, A), one=("f", A, B), signs=SIGNS), True)
        self.assertEqual(trees_of_size(size=1, signs=["b", "a"]), [A, B])
        self.assertIs(is_ask(thing=ASK), True)
        self.assertIs(is_fit(number=3, ask=ASK), True)
        self.assertIs(is_rule(thing=("k", "a", ()), signs=SIGNS), True)
        book = Book(rules=RULES, signs=SIGNS)
        self.assertEqual((book.signs, book.rules), (SIGNS, RULES))


class LargeTest(CallCase):
    def test_five_thousand_places_and_forty_deep(self):
        tree = ("f", *[chain(39)] * 128)
        self.assertEqual((size(SIGNS, tree), depth(SIGNS, tree)), (4993, 40))
        self.assertEqual(plain(SIGNS, tree), tree)
        self.assertEqual(len(parts(SIGNS, tree)), 40)
        self.assertIs(alike(SIGNS, tree, ("f", *[chain(39)] * 127, chain(39, "b"))), False)

    def test_the_deepest_place_of_all_matters(self):
        tree = ("f", *[("f", A, chain(38)), ("f", chain(38), A)] * 60)
        turned = ("f", *[("f", chain(38), A)] * 120)
        self.assertIs(alike(SIGNS, tree, turned), True)
        self.assertIs(alike(SIGNS, tree, ("f", *turned[2:], ("f", chain(38, "b"), A))), False)


if __name__ == "__main__":
    unittest.main()
