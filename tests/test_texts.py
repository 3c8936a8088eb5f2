"""Promise 25: texts."""

import random
import time
import unittest

from broodcounts.books import Book
from broodcounts.errors import (
    InvalidBook, InvalidRule, InvalidSigns, InvalidTree, InvalidWish, ParseError,
)
from broodcounts.texts import (
    format_book, format_rule, format_tree, format_wish, parse_book, parse_rule, parse_tree, parse_wish,
)
from tests import naive
from tests.support import (
    A, B, BOOK, MANY_SIGNS, NO_WISHES, RULES, SIGNS, TWO_SIGNS, CallCase, nested, odd_objects,
)

F = ("f",)
TREES = [
    (A, "a"), (("f", A), "f(a)"), (("f", B, A), "f(b,a)"), (("f", ("f", ("a", B), A), B, F), "f(f(a(b),a),b,f)"),
    (("f", A, A, A), "f(a,a,a)"),
]
RULE_TEXTS = [
    (("k", "a", ()), "k = a"), (("k", "a", ((None, 0, 0, 1, 0),)), "k = a *:0-0"),
    (("k", "f", (("leaf", 2, None, 1, 0),)), "k = f leaf:2-"), (("k", "f", (("k", 0, 5, 2, 1),)), "k = f k:0-5@2+1"),
    (("abcdefgh", "b", ((None, 5, None, 3, 2), ("not", 1, 1, 1, 0))), "abcdefgh = b *:5-@3+2 not:1-1"),
    (("signs", "a", (("x", 0, None, 1, 0), ("x", 0, None, 2, 0), ("x", 3, 4, 3, 0))), "signs = a x:0- x:0-@2+0 x:3-4@3+0"),
]
WISH_TEXTS = [
    ("leaf", "leaf"), ("abcdefgh", "abcdefgh"), (("not", "x"), "not x"), (("and", "x", "y"), "and x y"),
    (("or", "y", "x"), "or y x"), ("not", "'not"), ("and", "'and"), ("or", "'or"), (("not", "not"), "not 'not"),
    (("and", ("or", "a", ("not", "b")), ("not", ("not", "and"))), "and or a not b not not 'and"),
    (("or", ("and", "or", "not"), "nota"), "or and 'or 'not nota"),
]
BOOK_TEXTS = [
    (Book(["a"], []), "signs a"), (Book(["b", "a"], [("k", "a", ())]), "signs b a\nk = a"),
    (BOOK, "signs a b f\nleaf = a *:0-0\nleaf = b *:0-0\neven = f leaf:0-@2+0 even:0-1\nwide = f leaf:3-"),
    (Book(list("hgfedcba"), [("signs", "h", (("and", 1, 2, 3, 2),))]), "signs h g f e d c b a\nsigns = h and:1-2@3+2"),
    (Book(["signs"], [("k", "signs", ())] * 2), "signs signs\nk = signs\nk = signs"),
]
SIGNS_AND_MARKS = "abfkz*:-@+=()',/_ 0123456789A\n\t"


def changed_texts(text):
    """All texts that differ by one sign left out, put in, doubled or exchanged."""
    found = {text[:at] + text[at + 1:] for at in range(len(text))}
    found |= {text[:at] + text[at] + text[at:] for at in range(len(text))}
    found |= {text[:at] + mark + text[at:] for at in range(len(text) + 1) for mark in SIGNS_AND_MARKS}
    found |= {text[:at] + mark + text[at + 1:] for at in range(len(text)) for mark in SIGNS_AND_MARKS}
    return sorted(found - {text})


class TextCase(CallCase):
    def assert_no_text(self, call, text, line=0):
        with self.subTest(text=repr(text)[:80]):
            with self.assertRaises(ParseError) as caught:
                call(text)
            self.assertIs(type(caught.exception), ParseError)
            self.assertEqual(caught.exception.line, line)
            self.assertIs(type(caught.exception.line), int)

    def check_changed(self, read, write, text, line=None):
        """A text is refused, or it is just the text of what it tells: so no other text is read."""
        refused = 0
        for other in changed_texts(text):
            try:
                told = read(other)
            except ParseError as error:
                refused += 1
                self.assertIs(type(error.line), int)
                self.assertEqual(error.line, 0 if line is None else line(other))
            else:
                self.assertEqual(write(told), other)
        self.assertGreater(refused, 0)

    def check_odd(self, call):
        for thing in odd_objects():
            if not isinstance(thing, str):
                self.assert_no_text(call, thing)
                self.assert_no_text(call, [thing])
        for thing in (b"a", ["a"], ("a",), {"a": "a"}):
            self.assert_no_text(call, thing)


class TreeTest(TextCase):
    def test_both_ways(self):
        for tree, text in TREES:
            self.assertEqual(format_tree(SIGNS, tree), text)
            self.assertEqual(parse_tree(SIGNS, text), tree)
        self.assertEqual(parse_tree(["ab", "b", "abc"], "ab(abc(b),ab)"), ("ab", ("abc", ("b",)), ("ab",)))

    def test_random_trees(self):
        source = random.Random(251)
        for _ in range(300):
            tree = naive.random_tree(source, SIGNS, source.randint(1, 15))
            self.assertEqual(parse_tree(SIGNS, format_tree(SIGNS, tree)), tree)

    def test_no_texts(self):
        for text in ["", " ", "a ", " a", "z", "A", "aa", "a()", "f(", "f(a", "f(a))", "f)", ")", "(", "()", "(a)", "f(a)(b)",
                     "f(,a)", "f(a,)", "f(a,,b)", "f(a b)", "f(a, b)", "f (a)", "f( a)", "a,b", "a,", ",a", "f(a),b", "f(a)b",
                     "f(a)f", "f(a(b)", "f((a))", "f(z)", "f(a,(b))", "a\n", "\na", "f(a,\tb)", "'a", "f(a)(", "f(a),", "a(b))"]:
            self.assert_no_text(lambda text: parse_tree(SIGNS, text), text)

    def test_texts_that_differ_by_one_sign(self):
        for _, text in TREES:
            self.check_changed(lambda text: parse_tree(SIGNS, text), lambda tree: format_tree(SIGNS, tree), text)

    def test_errors(self):
        self.check_odd(lambda thing: parse_tree(SIGNS, thing))
        for signs in (None, [], ("a",), ["a", "a"], ["A"], list("abcdefghi"), "a"):
            self.assert_raises_exactly(InvalidSigns, parse_tree, signs, "f(")
            self.assert_raises_exactly(InvalidSigns, format_tree, signs, None)
        self.assert_each_raises(InvalidTree, lambda tree: format_tree(SIGNS, tree),
                                [None, "a", (), ["a"], ("z",), ("f", "a"), ("f", None), ("f", ("z",)), ("f", [A]), BOOK])


class RuleTest(TextCase):
    def test_both_ways(self):
        for rule, text in RULE_TEXTS:
            self.assertEqual(format_rule(SIGNS, rule), text)
            self.assertEqual(parse_rule(SIGNS, text), rule)

    def test_each_ask(self):
        for kind in ("k", None):
            for low in range(6):
                for high in (None, *range(low, 6)):
                    for step in (1, 2, 3):
                        for rest in range(step):
                            rule = ("x", "a", ((kind, low, high, step, rest),))
                            self.assertEqual(parse_rule(SIGNS, format_rule(SIGNS, rule)), rule)

    def test_no_texts(self):
        for text in ["", "k", "k =", "k = ", "k a", "= a", " = a", "k = z", "K = a", "abcdefghi = a", "k == a", "k  = a",
                     "k =  a", " k = a", "k = a ", "k = a  x:0-", "k = a x:0-  x:0-", "* = a", "k = *", "k = a\n", "k\t= a",
                     "k=a", "'k = a", "k = 'a", "k = a x:0-\nk = a"]:
            self.assert_no_text(lambda text: parse_rule(SIGNS, text), text)
        for ask in ["", "x", "x:", "x:-", "x:0", "x:-0", ":0-0", "x0-0", "x:0:0", "x:0-0-0", "x:10-", "x:0-10", "x:00-", "x:01-2",
                    "x:0-01", "x:6-", "x:0-6", "x:2-1", "x:+0-", "x:-0-", "x:0-+1", "x:0--1", "x:0-@", "x:0-@2", "x:0-@2+",
                    "x:0-@+1", "x:0-@2+2", "x:0-@1+0", "x:0-@0+0", "x:0-@4+0", "x:0-@2-1", "x:0-@2+1+", "x:0-@2+01", "x:0-@02+1",
                    "x:0-@2+1@2+1", "@2+1", "X:0-", "x y:0-", "**:0-", "*x:0-", "'x:0-", "abcdefghi:0-", "x:0-*", "x:a-", "x:0-a",
                    "x:0-@2++1", "x:0-@2+-1", "x:None-", "x:0-@3+3", "x: 0-", "x:0- 1", "*:*-*", "x:0-1@", "x:0-1@3", "x:0-1+1"]:
            self.assert_no_text(lambda text: parse_rule(SIGNS, text), "k = a " + ask)
            self.assert_no_text(lambda text: parse_rule(SIGNS, text), f"k = a y:0-1 {ask} *:0-")

    def test_texts_that_differ_by_one_sign(self):
        for _, text in RULE_TEXTS:
            self.check_changed(lambda text: parse_rule(SIGNS, text), lambda rule: format_rule(SIGNS, rule), text)

    def test_errors(self):
        self.check_odd(lambda thing: parse_rule(SIGNS, thing))
        for signs in (None, [], ("a",), ["a", "a"], ["A"], list("abcdefghi"), "a"):
            self.assert_raises_exactly(InvalidSigns, parse_rule, signs, "k =")
            self.assert_raises_exactly(InvalidSigns, format_rule, signs, None)
        self.assert_each_raises(InvalidRule, lambda rule: format_rule(SIGNS, rule), [
            None, "k = a", (), ("k",), ("k", "a"), ("k", "z", ()), ("K", "a", ()), ("k", "a", []), ["k", "a", ()],
            ("k", "a", ((None, 0, 0, 1),)), ("k", "a", ((None, 0, 0, 1, True),)), ("k", "a", (), ()), BOOK,
            *odd_objects()])


class WishTest(TextCase):
    def test_both_ways(self):
        for wish, text in WISH_TEXTS:
            self.assertEqual(format_wish(wish), text)
            self.assertEqual(parse_wish(text), wish)

    def test_random_wishes(self):
        source = random.Random(252)
        for _ in range(300):
            wish = naive.random_wish(source, ["x", "not", "and", "or", "abcdefgh"], 4)
            self.assertEqual(parse_wish(format_wish(wish)), wish)

    def test_no_texts(self):
        for text in ["", " ", "x ", " x", "x y", "not", "and", "or", "not x y", "and x", "and x y z", "or x", "or not x", "not not",
                     "and not x", "'x", "'", "''not", "'not'", "not'", "'nor", "' not", "not  x", "and x  y", "X", "abcdefghi",
                     "x1", "and and x y", "not x\n", "not\nx", "not\tx", "(x)", "x,y", "'and x y", "and 'x y", "Not x", "'not x"]:
            self.assert_no_text(parse_wish, text)

    def test_texts_that_differ_by_one_sign(self):
        for _, text in WISH_TEXTS:
            self.check_changed(parse_wish, format_wish, text)

    def test_words_left_out_and_put_in(self):
        for wish, text in WISH_TEXTS:
            words = text.split(" ")
            for at in range(len(words)):
                for word in ("x", "'or"):
                    self.assert_no_text(parse_wish, " ".join([*words[:at], word, *words[at:]]))
                for word in ("and", "or"):
                    self.assert_no_text(parse_wish, " ".join([*words[:at], word, *words[at:]]))
                self.assertNotEqual(parse_wish(" ".join([*words[:at], "not", *words[at:]])), wish)
                if words[at] != "not":
                    self.assert_no_text(parse_wish, " ".join([*words[:at], *words[at + 1:]]))

    def test_errors(self):
        self.check_odd(parse_wish)
        self.assert_each_raises(InvalidWish, format_wish, NO_WISHES)
        self.assert_each_raises(InvalidWish, format_wish, [x for x in odd_objects() if x not in ("a", "abcdefgh")])


def first_wrong_line(text):
    """The index of the first line that is wrong, line by line."""
    lines = text.split("\n")
    first = lines[0].split(" ")
    signs = first[1:]
    if first[0] != "signs" or not 1 <= len(signs) <= 8 or len({*signs}) < len(signs):
        return 0
    if not all(sign.isalpha() and sign.islower() and len(sign) <= 8 for sign in signs):
        return 0
    for at, line in enumerate(lines[1:], 1):
        try:
            parse_rule(signs, line)
        except ParseError:
            return at
        if at == 201:
            return at
    return None


class BookTest(TextCase):
    def test_both_ways(self):
        for book, text in BOOK_TEXTS:
            self.assertEqual(format_book(book), text)
            told = parse_book(text)
            self.assertEqual((type(told), told.signs, told.rules), (Book, book.signs, book.rules))

    def test_random_books(self):
        for book in naive.random_books(253, 200) + [MANY_SIGNS, TWO_SIGNS]:
            told = parse_book(format_book(book))
            self.assertEqual((told.signs, told.rules), (book.signs, book.rules))

    def test_the_line_that_is_wrong(self):
        for text, line in [
            ("", 0), ("sign a", 0), ("signs", 0), ("signs ", 0), (" signs a", 0), ("signs a ", 0), ("signs  a", 0), ("signs a a", 0),
            ("signs a b c d e f g h i", 0), ("signs A", 0), ("signs abcdefghi", 0), ("a", 0), ("k = a", 0), ("\nsigns a", 0),
            ("signs 'a", 0), ("signs a\n", 1), ("signs a\n\nk = a", 1), ("signs a\nk = b", 1), ("signs a\nk = a\n", 2),
            ("signs a\nk = a\nk = b", 2), ("signs a\nk = a x:1\nk = b", 1), ("signs a\nk = a\nk = a \nk = b", 2), ("signs", 0),
            ("signs a\nsigns a", 1), ("signs a\nk = a\n\n", 2), ("signs a\r\nk = a", 0), ("signs\ta", 0), ("Signs a", 0),
        ]:
            self.assert_no_text(parse_book, text, line)

    def test_two_hundred_rules_and_one_more(self):
        lines = ["signs a"] + ["k = a"] * 200
        self.assertEqual(len(parse_book("\n".join(lines))), 200)
        self.assert_no_text(parse_book, "\n".join([*lines, "k = a"]), 201)
        self.assert_no_text(parse_book, "\n".join([*lines, "k = b"]), 201)
        self.assert_no_text(parse_book, "\n".join([*lines, ""]), 201)
        self.assert_no_text(parse_book, "\n".join([*lines, "k = a", "k = b"]), 201)
        self.assert_no_text(parse_book, "\n".join([*lines[:150], "k = b", *lines[150:]]), 150)
        self.assert_no_text(parse_book, "\n".join([*lines[:200], "k = b", "k = a"]), 200)
        self.assert_no_text(parse_book, "\n".join(["sign a", *lines[1:], "k = a"]), 0)

    def test_texts_that_differ_by_one_sign(self):
        for _, text in BOOK_TEXTS:
            self.check_changed(parse_book, format_book, text, first_wrong_line)

    def test_many_kinds(self):
        rules = [(f"{one}{other}", "a", ()) for one in "abcdefghij" for other in "abcdefghij"]
        self.assertEqual(parse_book(format_book(Book(["a"], rules))).rules, rules)

    def test_errors(self):
        self.check_odd(parse_book)
        self.assert_each_raises(InvalidBook, format_book, [None, RULES, "signs a", ["signs a"], [BOOK], (SIGNS, RULES), Book])


class BothTest(TextCase):
    def test_by_name(self):
        self.assertEqual((format_tree(tree=F, signs=SIGNS), parse_tree(text="f", signs=SIGNS)), ("f", F))
        rule = ("k", "a", ())
        self.assertEqual((format_rule(rule=rule, signs=SIGNS), parse_rule(text="k = a", signs=SIGNS)), ("k = a", rule))
        self.assertEqual((format_wish(wish="k"), parse_wish(text="k")), ("k", "k"))
        self.assertEqual(parse_book(text=format_book(book=BOOK)), BOOK)

    def test_at_the_bounds(self):
        rules = [("abcdefgh", "abcdefgh", (("abcdefgh", 1, 5, 3, 2),) * 5)] * 200
        book = Book(["abcdefgh"], rules)
        wide, deep = ("f", *[A] * 4999), ("f", *[nested(39, lambda part: ("f", part) if part else A)] * 128)
        begun = time.perf_counter()
        self.assertEqual(parse_book(format_book(book)), book)
        for tree in (wide, deep):
            self.assertEqual(parse_tree(SIGNS, format_tree(SIGNS, tree)), tree)
        for text in ("a" * 100000, "f(" * 40 + "a" * 5000, "not " * 5000 + "a b", ",".join(["a"] * 5000), "k = a" + " x" * 5000):
            for call in (lambda text: parse_tree(SIGNS, text), lambda text: parse_rule(SIGNS, text), parse_wish, parse_book):
                self.assert_no_text(call, text)
        self.assertLess(time.perf_counter() - begun, 3)


if __name__ == "__main__":
    unittest.main()
