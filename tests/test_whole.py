"""The whole program: what one part tells agrees with the others, at each bound, and however often it is asked."""

import random
import time
import unittest

from broodcounts.beside import are_alike, holds, parting
from broodcounts.books import Book, is_ask, is_fit
from broodcounts.broods import brood_of, cap_and_step, grown, step
from broodcounts.counting import count, listed, place_of, tree_at
from broodcounts.document import Document
from broodcounts.endless import all_trees, growth, is_finite
from broodcounts.errors import InvalidNumber, InvalidRules, InvalidSigns, InvalidTree, InvalidWish, TooMany
from broodcounts.made import is_made, least, least_size
from broodcounts.mending import least_added, least_taken
from broodcounts.met import never_met, numbers_met
from broodcounts.needless import needless_asks, needless_rules
from broodcounts.nets import net_lots, net_of, net_sizes, tree_of
from broodcounts.reader import Reader
from broodcounts.shell import Shell
from broodcounts.surroundings import are_kin, kin_classes, parter
from broodcounts.tables import is_table, lots, table
from broodcounts.texts import format_book, format_tree, format_wish, parse_book, parse_tree, parse_wish
from broodcounts.trees import alike, is_signs, is_tree, parts, plain, size, trees_of_size
from broodcounts.wishes import is_of, is_wish, lot_of
from tests import naive
from tests.support import A, BOOK, MANY_SIGNS, TWO_SIGNS, CallCase, read, snapshot

F = ("f",)


def write(document, tree, path=()):
    """Put all brothers of a tree beneath the tree at a path of a document, which has its sign."""
    for place, brother in enumerate(tree[1:]):
        document.add(path, brother[0])
        write(document, brother, (*path, place))


def paths_of(tree, path=()):
    yield path, tree
    for place, brother in enumerate(tree[1:]):
        yield from paths_of(brother, (*path, place))


class TogetherTest(CallCase):
    def test_readers_documents_nets_and_texts_tell_of_the_same_tree(self):
        source = random.Random(301)
        for book in naive.random_books(301, 80) + [BOOK, MANY_SIGNS, TWO_SIGNS]:
            signs, wish = book.signs, naive.random_wish(source, ["x", "y", "even"])
            tree = naive.random_tree(source, signs, source.randint(1, 14))
            lot = lot_of(book, tree)
            self.assertEqual(lot, naive.lot(book, tree))
            self.assertEqual(read(Reader(book), tree), lot)
            document = Document(book, tree[0])
            write(document, tree)
            self.assertEqual((document.tree, document.lot(())), (tree, lot))
            self.assertEqual(document.failing(wish), [
                path for path, part in paths_of(tree) if not is_of(book, wish, part)])
            net = net_of(signs, tree)
            self.assertEqual((net_lots(book, net)[-1], net_sizes(signs, net)[-1]), (lot, size(signs, tree)))
            self.assertEqual(net_lots(book, net), [lot_of(book, part) for part in parts(signs, tree)])
            self.assertEqual(tree_of(signs, net), plain(signs, tree))
            self.assertEqual(parse_tree(signs, format_tree(signs, document.tree)), tree)
            self.assertIs(alike(signs, tree_of(signs, net), tree), True)
            brood = brood_of(book, [lot_of(book, brother) for brother in tree[1:]])
            self.assertEqual(step(book, tree[0], brood), lot)

    def test_books_and_wishes_by_their_texts_tell_the_same(self):
        source = random.Random(302)
        for book in naive.random_books(302, 60):
            wish = naive.random_wish(source, ["x", "y", "not"])
            told, asked = parse_book(format_book(book)), parse_wish(format_wish(wish))
            tree = naive.random_tree(source, book.signs, 4)
            for call, passed in questions(tree):
                self.assertEqual(call(told, asked, *passed), call(book, wish, *passed))
            self.assertIs(are_alike(book, wish, told, asked), True)
            self.assertEqual(cap_and_step(told), cap_and_step(book))

    def test_a_document_behind_each_call_and_back(self):
        source = random.Random(303)
        for book in naive.random_books(303, 30):
            document, states = Document(book, book.signs[0]), []
            for _ in range(12):
                states.append((document.tree, document.lot(()), document.failing("x"), len(document)))
                path, part = source.choice(list(paths_of(document.tree)))
                if path and source.random() < 0.3:
                    document.remove(path)
                elif source.random() < 0.2:
                    document.rename(path, source.choice(book.signs))
                else:
                    document.add(path, source.choice(book.signs))
                self.assertEqual(document.lot(()), read(Reader(book), document.tree))
            last = document.copy()
            for tree, lot, failing, many in reversed(states):
                document.undo()
                self.assertEqual((document.tree, document.lot(()), document.failing("x"), len(document)),
                                 (tree, lot, failing, many))
            self.assertEqual(last.lot(()), lot_of(book, last.tree))
            last.undo(steps=12)
            self.assertEqual(last.tree, document.tree)


def questions(tree):
    """Calls of a book and a wish, each with what else it is passed; their answers can be compared."""
    sign = tree[0]
    return [
        (is_of, [tree]), (is_made, []), (least_size, []), (is_finite, []), (some_trees, []), (count, [6]), (listed, [3]),
        (are_kin, [tree, (sign,)]), (kin_classes, []), (needless_rules, []), (needless_asks, []), (least_taken, [tree]),
        (numbers_met, [sign, "x"]), (never_met, []), (lambda book, wish: lots(book), []), (least, []), (least_added, [tree]),
        (growth, []), (parter, [tree, (sign,)]), (lambda book, wish: table(book), []),
        (lambda book, wish: holds(book, wish, book, ("not", "y")), []),
        (lambda book, wish: parting(book, wish, book, "x"), []),
    ]


def some_trees(book, wish):
    try:
        return all_trees(book, wish)
    except TooMany:
        return None


class OneBookTest(CallCase):
    def test_each_question_as_if_it_were_the_only_one(self):
        source = random.Random(304)
        for book in naive.random_books(304, 25):
            tree = naive.random_tree(source, book.signs, 4)
            asked = [(call, wish, passed) for call, passed in questions(tree)
                     for wish in ("x", ("not", "x"), ("and", "x", ("not", "y")), "nokind")]
            source.shuffle(asked)
            before = snapshot(book)
            for call, wish, passed in asked:
                alone = Book(book.signs, book.rules)
                told = call(book, wish, *passed)
                self.assertEqual(snapshot(told), snapshot(call(alone, wish, *passed)))
                if isinstance(told, list):
                    told.append("spoiled")
            self.assertEqual(snapshot(book), before)

    def test_refused_calls_change_nothing(self):
        for call, passed in questions(A):
            for wish in ((), "A", None, ("not",)):
                if call.__name__ != "<lambda>":
                    self.assert_raises_exactly(InvalidWish, call, BOOK, wish, *passed)
        self.assertEqual(needless_rules(BOOK, "leaf"), [2, 3])

    def test_copies_of_copies(self):
        reader, document = Reader(BOOK), Document(BOOK, "f")
        readers, documents = [reader], [document]
        for at in range(6):
            readers.append(readers[-1].copy())
            documents.append(documents[-1].copy())
            readers[-1].begin("abf"[at % 3])
            documents[-1].add((), "abf"[at % 3])
        self.assertEqual([len(one) for one in readers], list(range(7)))
        self.assertEqual([len(one) for one in documents], list(range(7)))
        self.assertEqual([len(one.tree) for one in documents], list(range(1, 8)))
        for one in documents[1:]:
            one.undo()
        self.assertEqual([len(one) for one in documents], [0, *range(6)])


class BoundsTest(CallCase):
    def test_signs_names_asks_and_rules(self):
        self.assertIs(is_signs(list("abcdefgh")), True)
        self.assertIs(is_signs(list("abcdefghi")), False)
        self.assert_raises_exactly(InvalidSigns, Book, list("abcdefghi"), [])
        self.assertIs(is_signs(["abcdefgh"]), True)
        self.assertIs(is_signs(["abcdefghi"]), False)
        for ask, expected in [(("abcdefgh", 5, 5, 3, 2), True), (("abcdefghi", 5, 5, 3, 2), False), (("k", 6, None, 3, 2), False),
                              (("k", 5, 6, 3, 2), False), (("k", 5, 4, 3, 2), False), (("k", 0, 0, 4, 0), False),
                              (("k", 0, 0, 3, 3), False), (("k", 0, 0, 1, 0), True), (("k", 0, 0, 0, 0), False)]:
            self.assertIs(is_ask(ask), expected)
        self.assertIs(is_fit(("k", 5, None, 3, 2), 10 ** 40 - 1 - (10 ** 40 - 3) % 3), True)
        self.assertEqual(len(Book(["a"], [("k", "a", ())] * 200)), 200)
        self.assert_raises_exactly(InvalidRules, Book, ["a"], [("k", "a", ())] * 201)
        self.assertIs(is_wish("abcdefgh"), True)
        self.assertIs(is_wish("abcdefghi"), False)

    def test_or_of_books_with_two_hundred_rules(self):
        one = Book(["a"], [("k", "a", ())] * 100)
        other = Book(["a"], [("m", "a", ())] * 100)
        self.assertEqual(len(one | other), 200)
        self.assert_raises_exactly(InvalidRules, lambda: one | Book(["a"], other.rules + [("m", "a", ())]))

    def test_sizes_and_numbers(self):
        self.assertEqual(len(trees_of_size(["a"], 10)), 719)
        self.assert_raises_exactly(TooMany, trees_of_size, ["a"], 11)
        self.assert_raises_exactly(TooMany, trees_of_size, ["a"], 12)
        self.assert_raises_exactly(InvalidNumber, trees_of_size, ["a"], 13)
        one = Book(["a"], [])
        self.assertEqual(count(one, ("not", "k"), 20), 12826228)
        self.assert_raises_exactly(InvalidNumber, count, one, "k", 21)
        self.assert_raises_exactly(InvalidNumber, listed, one, "k", 13)
        self.assertEqual(tree_at(one, ("not", "k"), 10, 718), trees_of_size(["a"], 10)[718])
        self.assert_raises_exactly(InvalidNumber, tree_at, one, ("not", "k"), 10, 719)
        self.assert_raises_exactly(InvalidTree, place_of, one, ("not", "k"), ("a", *[A] * 12))
        self.assert_raises_exactly(TooMany, place_of, one, ("not", "k"), ("a", *[A] * 11))

    def test_three_hundred_trees_and_one_more(self):
        # All trees of so many leaves: with no other sign there are just as many as there may be leaves.
        signs = list("abcdefgh")
        leaf = [("leaf", sign, ((None, 0, 0, 1, 0),)) for sign in signs]
        three = Book(signs, leaf + [("few", "a", (("leaf", 0, 3, 1, 0), (None, 0, 3, 1, 0), ("other", 0, 0, 1, 0)))] + [
            ("other", sign, ((None, 1, None, 1, 0),)) for sign in signs])
        self.assertEqual(len(all_trees(three, "few")), 165)
        self.assertEqual(len(all_trees(three, ("or", "few", "leaf"))), 172)
        four = Book(signs, leaf + [("few", "a", (("leaf", 0, 4, 1, 0), (None, 0, 4, 1, 0), ("other", 0, 0, 1, 0)))] + [
            ("other", sign, ((None, 1, None, 1, 0),)) for sign in signs])
        self.assertIs(is_finite(four, "few"), True)
        self.assert_raises_exactly(TooMany, all_trees, four, "few")

    def test_forty_deep_trees(self):
        tree = A
        for level in range(39):
            tree = ("f", tree, A) if level % 2 else ("f", tree)
        self.assertIs(is_tree(BOOK.signs, tree), True)
        document = Document(BOOK, "f")
        write(document, tree)
        self.assertEqual(document.lot(()), lot_of(BOOK, tree))
        self.assertEqual(read(Reader(BOOK), tree), net_lots(BOOK, net_of(BOOK.signs, tree))[-1])
        self.assertEqual(parse_tree(BOOK.signs, format_tree(BOOK.signs, tree)), tree)

    def test_twenty_words(self):
        wish = "even"
        for _ in range(6):
            wish = ("and", ("not", ("not", wish)), "even")
        self.assertEqual(len(format_wish(wish).split(" ")), 25)
        wish = wish[1][1][1]
        self.assertEqual(parse_wish(format_wish(wish)), wish)
        self.assertIs(are_alike(BOOK, wish, BOOK, "even"), True)
        self.assertEqual(needless_rules(BOOK, wish), needless_rules(BOOK, "even"))

    def test_eight_lots_and_many_broods(self):
        for book in (MANY_SIGNS, TWO_SIGNS):
            self.assertEqual(len(lots(book)), 8)
            self.assertLessEqual(len(table(book)[1]), 1000)
            begun = time.perf_counter()
            fresh = Book(book.signs, book.rules)
            self.assertIs(is_table(fresh, table(fresh)), True)
            for call, passed in questions((book.signs[1], (book.signs[0],))):
                call(fresh, ("or", "x", ("and", "y", ("not", "z"))), *passed)
            self.assertLess(time.perf_counter() - begun, 4)

    def test_broods_grow_beyond_the_cap(self):
        cap, steps = cap_and_step(BOOK)
        brood = brood_of(BOOK, [])
        for many in range(1, 40):
            brood = grown(BOOK, brood, ("leaf",))
            self.assertEqual(brood, brood_of(BOOK, [("leaf",)] * many))
            self.assertEqual(brood[-1], (min(many, cap), many % steps))


class ShellTest(CallCase):
    def test_two_shells_and_the_functions_side_by_side(self):
        one, other = Shell(), Shell()
        for book, shell in ((BOOK, one), (TWO_SIGNS, other)):
            shell.run("book one " + format_book(book).replace(" ", "_").replace("\n", "/"))
        for _ in range(2):
            self.assertEqual(one.run("made one wide"), str(least_size(BOOK, "wide")))
            self.assertEqual(other.run("made one z"), str(least_size(TWO_SIGNS, "z")))
            self.assertEqual(one.run("needless one leaf"), "2 3 2.0 2.1 3.0")
            self.assertEqual(other.run("lots one").count(" "), 7)


if __name__ == "__main__":
    unittest.main()
