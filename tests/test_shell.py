"""Promise 26: the shell."""

import random
import time
import unittest

from broodcounts.beside import holds, parting
from broodcounts.books import Book
from broodcounts.counting import count
from broodcounts.endless import is_finite
from broodcounts.errors import (
    BroodError, InvalidLine, InvalidMatch, InvalidName, InvalidNumber, InvalidTree, InvalidWish, ParseError, UnknownName,
)
from broodcounts.made import least_size
from broodcounts.needless import needless_asks, needless_rules
from broodcounts.shell import Shell
from broodcounts.surroundings import are_kin
from broodcounts.tables import lots
from broodcounts.texts import format_book, format_tree, format_wish
from broodcounts.trees import size
from broodcounts.wishes import is_of, lot_of
from tests import naive
from tests.support import BOOK, MANY_SIGNS, TWO_SIGNS, CallCase, odd_objects

BOOK_WORD = "signs_a_b_f/leaf_=_a_*:0-0/leaf_=_b_*:0-0/even_=_f_leaf:0-@2+0_even:0-1/wide_=_f_leaf:3-"
LINES = ["book one " + BOOK_WORD, "of one leaf a", "lot one a", "lots one", "made one leaf", "end one leaf", "count one leaf 1",
         "holds one leaf one leaf", "alike one leaf one leaf", "kin one leaf a b", "needless one leaf", "names"]


def word_of(text):
    return text.replace(" ", "_").replace("\n", "/")


def filled(*names):
    """A shell with the book of the examples under some names, and another one with other signs."""
    shell = Shell()
    for name in names or ("one",):
        shell.run(f"book {name} {BOOK_WORD}")
    shell.run("book other signs_a/k_=_a")
    return shell


def state(shell):
    """All that a shell tells of itself."""
    names = shell.run("names")
    return names, [shell.run(f"lots {name}") for name in names.split(" ") if name != "-"]


class AnswersTest(CallCase):
    def check(self, shell, *pairs):
        for line, expected in pairs:
            self.assertEqual(shell.run(line), expected, line)
            self.assertIs(type(shell.run(line)), str)

    def test_trees_and_lots(self):
        self.check(filled(), ("of one leaf a", "yes"), ("of one leaf f", "no"), ("of one wide f(a,b,a)", "yes"),
                   ("of one and_wide_not_even f(a,b,a)", "yes"), ("of one or_leaf_not_leaf f(f(f))", "yes"),
                   ("of one nokind a", "no"), ("of one 'not a", "no"), ("of one not_'not a", "yes"),
                   ("lot one a", "leaf"), ("lot one f(a)", "-"), ("lot one f(a,a,b,b)", "even+wide"),
                   ("lot one f(f,a)", "-"), ("lots one", "- even even+wide leaf wide"), ("lots other", "k"))

    def test_wishes(self):
        self.check(filled(), ("made one wide", "4"), ("made one and_even_wide", "5"), ("made one and_leaf_even", "no"),
                   ("made one nokind", "no"), ("made one not_nokind", "1"), ("end one leaf", "yes"), ("end one wide", "no"),
                   ("end one nokind", "yes"), ("end one not_leaf", "no"), ("count one even 3", "12"), ("count one leaf 1", "2"),
                   ("count one leaf 2", "0"), ("count other not_x 20", "12826228"), ("count one nokind 20", "0"))

    def test_two_books(self):
        shell = filled("one", "two")
        shell.run("book odd signs_f_a_b/leaf_=_a_*:0-0/leaf_=_b_*:0-0/odd_=_f_leaf:0-@2+1")
        self.check(shell, ("holds odd not_odd one even", "yes"), ("holds one even odd not_odd", "no"),
                   ("holds one leaf two leaf", "yes"), ("holds one leaf two even", "no"), ("holds one leaf one nokind", "yes"),
                   ("alike one leaf odd leaf", "yes"), ("alike one even odd not_odd", "1"), ("alike one even two even", "yes"),
                   ("alike one wide one nokind", "4"), ("alike one and_even_wide one nokind", "5"))

    def test_kin_and_needless(self):
        shell = filled()
        shell.run("book pair signs_a_f/leaf_=_a_*:0-0/pair_=_f_leaf:2-2_*:2-2")
        self.check(shell, ("kin one wide a b", "yes"), ("kin one wide a f", "no"), ("kin one leaf f f(a)", "yes"),
                   ("kin one wide f f(a)", "yes"), ("needless one leaf", "2 3 2.0 2.1 3.0"), ("needless one wide", "2 2.0 2.1"),
                   ("needless one even", "3 3.0"), ("needless one or_even_wide", "none"), ("needless pair leaf", "1 1.0 1.1"),
                   ("needless pair pair", "none"), ("needless other k", "none"), ("needless other x", "0"))

    def test_more_than_ten_rules(self):
        shell = Shell()
        shell.run("book many signs_a" + "/x_=_a_*:0-" * 12)
        self.check(shell, ("needless many x", " ".join([str(at) for at in range(12)] + [f"{at}.0" for at in range(12)])))

    def test_names(self):
        shell = Shell()
        self.assertEqual(shell.run("names"), "-")
        for name, expected in [("b", "b"), ("abcdefgh", "abcdefgh b"), ("a", "a abcdefgh b"), ("ab", "a ab abcdefgh b"),
                               ("names", "a ab abcdefgh b names"), ("book", "a ab abcdefgh b book names")]:
            self.assertEqual(shell.run(f"book {name} signs_a"), "ok")
            self.assertEqual(shell.run("names"), expected)
        self.assertEqual(shell.run("lots book"), "-")

    def test_a_book_in_the_place_of_one(self):
        shell = filled("a", "ab")
        self.assertEqual(shell.run("book ab signs_z/k_=_z"), "ok")
        self.check(shell, ("lots ab", "k"), ("lots a", "- even even+wide leaf wide"), ("names", "a ab other"),
                   ("of ab k z(z)", "yes"))
        self.assert_raises_exactly(InvalidTree, shell.run, "lot ab a")

    def test_two_shells(self):
        one, other = filled(), Shell()
        self.assertEqual((one.run("names"), other.run("names")), ("one other", "-"))
        other.run("book one signs_b")
        self.check(one, ("lots one", "- even even+wide leaf wide"))
        self.check(other, ("lots one", "-"), ("names", "one"))
        self.assert_raises_exactly(UnknownName, other.run, "lots other")

    def test_by_name(self):
        self.assertEqual(filled().run(line="lot one a"), "leaf")

    def test_as_the_functions_tell(self):
        source = random.Random(261)
        for one in naive.random_books(261, 60):
            other = naive.random_book(source, one.signs[::-1], "xy", 1)
            wish, other_wish = naive.random_wish(source, ["x", "y"]), naive.random_wish(source, ["x", "not"])
            tree, more = [naive.random_tree(source, one.signs, source.randint(1, 5)) for _ in range(2)]
            shell = Shell()
            shell.run("book p " + word_of(format_book(one)))
            shell.run("book q " + word_of(format_book(other)))
            first, second = word_of(format_wish(wish)), word_of(format_wish(other_wish))
            told, least, apart = format_tree(one.signs, tree), least_size(one, wish), parting(one, wish, other, other_wish)
            asks = [f"{index}.{ask}" for index, ask in needless_asks(one, wish)]
            self.check(
                shell, (f"of p {first} {told}", yes(is_of(one, wish, tree))), (f"lot p {told}", lot_word(lot_of(one, tree))),
                ("lots p", " ".join(lot_word(lot) for lot in lots(one))), (f"made p {first}", str(least) if least else "no"),
                (f"end p {first}", yes(is_finite(one, wish))), (f"count p {first} 7", str(count(one, wish, 7))),
                (f"holds p {first} q {second}", yes(holds(one, wish, other, other_wish))),
                (f"alike p {first} q {second}", str(size(one.signs, apart)) if apart else "yes"),
                (f"kin p {first} {told} {format_tree(one.signs, more)}", yes(are_kin(one, wish, tree, more))),
                (f"needless p {first}", " ".join([*map(str, needless_rules(one, wish)), *asks]) or "none"))


def yes(told):
    return "yes" if told else "no"


def lot_word(lot):
    return "+".join(lot) or "-"


class ErrorsTest(CallCase):
    def refuse(self, shell, error, *lines):
        before = state(shell)
        for line in lines:
            with self.subTest(line=line):
                self.assert_raises_exactly(error, shell.run, line)
        self.assertEqual(state(shell), before)

    def test_lines_that_are_none(self):
        shell = filled()
        for line in LINES:
            self.assertIs(type(shell.run(line)), str)
            words = line.split(" ")
            self.refuse(shell, InvalidLine, line + " ", " " + line, line + "\n", "\n" + line, line + " a", line + " one",
                        " ".join(words[:-1]), "x" + line, line.upper(), line.replace(" ", "  ", 1) + " " * (len(words) == 1),
                        line.replace(" ", "\n", 1) + "\n", words[0] + " " + line)
        self.refuse(shell, InvalidLine, "", " ", "  ", "\n", "x", "one", "names names", "Names", "name", "nothing one", "lots",
                    "\tnames", "names\t", "lots  one", "book one", "book one signs a", "book one signs_a\n", "of one leaf", "of",
                    "holds one leaf one", "alike one leaf leaf", "kin one leaf a", "count one leaf", "lots\tone", "-", "/", "_")

    def test_objects_that_are_no_strings(self):
        shell = filled()
        self.refuse(shell, InvalidLine, *[x for x in odd_objects() if not isinstance(x, str)], ["names"], ("names",), b"names",
                    ["lots", "one"], shell, Shell)
        self.refuse(shell, InvalidLine, *[x for x in odd_objects() if isinstance(x, str)])

    def test_names_of_books(self):
        shell = filled()
        self.refuse(shell, InvalidName, *[f"book {name} {text}" for text in ("signs_a", "sign_a", "x")
                                          for name in ("abcdefghi", "A", "a1", "-", "a_b", "'a", "one/", "*", "1", "\t", "aB")])

    def test_texts_of_books(self):
        shell = filled()
        before = state(shell)
        for text, line in [("signs", 0), ("signs_", 0), ("sign_a", 0), ("x", 0), ("signs_a_a", 0), ("signs_a/", 1), ("_signs_a", 0),
                           ("signs_a/k_=_b", 1), ("signs_a/k_=_a/k_=_a_x:1-0", 2), ("signs_a//k_=_a", 1), ("signs_a/k_=_a/", 2),
                           ("signs_a" + "/k_=_a" * 201, 201), ("signs_a_", 0), ("signs__a", 0), ("signs\ta", 0), ("signs-a", 0)]:
            with self.assertRaises(ParseError) as caught:
                shell.run(f"book one {text}")
            self.assertEqual(caught.exception.line, line)
        self.assertEqual(state(shell), before)

    def test_unknown_names(self):
        shell = filled()
        for name in ("two", "on", "onee", "ONE", "o", "-", "one_", "names", "a/b", "'one", "other_"):
            self.refuse(shell, UnknownName, f"of {name} leaf a", f"lot {name} a", f"lots {name}", f"made {name} leaf",
                        f"end {name} leaf", f"count {name} leaf 1", f"holds {name} leaf one leaf", f"holds one leaf {name} leaf",
                        f"alike {name} leaf one leaf", f"alike one leaf {name} leaf", f"kin {name} leaf a a", f"needless {name} leaf")

    def test_wishes(self):
        shell = filled()
        for wish in ("not", "and_leaf", "Leaf", "leaf_", "_leaf", "not__leaf", "leaf_leaf", "'leaf", "abcdefghi", "not/leaf", "-",
                     "(leaf)", "and_a_b_c", "leaf/", "'", "1"):
            self.refuse(shell, InvalidWish, f"of one {wish} a", f"made one {wish}", f"end one {wish}", f"count one {wish} 1",
                        f"holds one {wish} one leaf", f"holds one leaf one {wish}", f"alike one {wish} one leaf",
                        f"alike one leaf one {wish}", f"kin one {wish} a a", f"needless one {wish}")

    def test_trees(self):
        shell = filled()
        for tree in ("z", "A", "f(", "f()", "f(a", "f(a))", "f(z)", "f(a,)", "a,b", "f(a)b", "f(a_b)", "f(a,_b)", "a/", "_a", "-", "(a)",
                     "f(a)/", "'a", "leaf", "f(a)(b)"):
            self.refuse(shell, InvalidTree, f"of one leaf {tree}", f"lot one {tree}", f"kin one leaf {tree} a",
                        f"kin one leaf a {tree}")
        self.refuse(shell, InvalidTree, "lot other b", "of other k f(a)", "kin other k a b")

    def test_sizes(self):
        shell = filled()
        self.refuse(shell, InvalidNumber, *[f"count one leaf {size}" for size in (
            "0", "21", "22", "100", "007", "01", "020", "00", "-1", "+1", "1.0", "1_0", "a", "-", "123456789", "999999999",
            "1234567890", "0000000001", "1e1", "''", "1/", "1\t", "one", "10" * 20)])
        for size in range(1, 21):
            self.assertEqual(shell.run(f"count one leaf {size}"), "2" if size == 1 else "0")

    def test_signs_that_do_not_match(self):
        shell = filled()
        self.refuse(shell, InvalidMatch, "holds one leaf other k", "alike one leaf other k", "holds other k one leaf",
                    "alike other k one leaf", "holds one x other x")

    def test_their_order(self):
        shell = filled()
        self.refuse(shell, InvalidLine, "book A sign a", "of two - z z", "count two - 0 0", "holds two - two")
        self.refuse(shell, InvalidName, "book A sign", "book - signs_a")
        self.refuse(shell, UnknownName, "of two - z", "lot two z", "made two -", "end two -", "count two - 0", "holds two - other -",
                    "holds one - two -", "alike two - other k", "alike one - two k", "kin two - z z", "needless two -",
                    "holds one leaf two leaf", "alike two leaf three leaf")
        self.refuse(shell, InvalidWish, "of one - z", "count one - 0", "holds one - other k", "holds one leaf other -",
                    "alike one - other -", "kin one - z z", "kin one - a z")
        self.refuse(shell, InvalidTree, "of one leaf z", "kin one leaf z z")
        self.refuse(shell, InvalidNumber, "count one leaf 0")
        self.refuse(shell, InvalidMatch, "holds one leaf other k")

    def test_new_shells(self):
        shell = Shell()
        for line in LINES[1:-1]:
            self.assert_raises_exactly(UnknownName, shell.run, line)
        self.assertEqual(shell.run("names"), "-")

    def test_lines_that_differ_by_one_sign(self):
        shell = filled()
        for line in LINES[1:]:
            for at in range(len(line) + 1):
                for sign in " \n_/,(a0'A-\t":
                    for other in (line[:at] + sign + line[at:], line[:at] + sign + line[at + 1:], line[:at] + line[at + 1:]):
                        try:
                            self.assertIs(type(shell.run(other)), str)
                        except BroodError as error:
                            if "" in other.split(" ") or "\n" in other:
                                self.assertIs(type(error), InvalidLine)
        self.assertEqual(state(shell), state(filled()))


class TimeTest(CallCase):
    def test_at_the_bounds(self):
        for book in (MANY_SIGNS, TWO_SIGNS):
            for first in ("lots one", "made one and_x_not_y", "end one and_x_not_y", "count one and_x_not_y 20",
                          "holds one x two x", "alike one x two or_x_y", "kin one x a b", "needless one and_x_not_y"):
                shell = Shell()
                text = word_of(format_book(book))
                shell.run(f"book one {text}")
                shell.run(f"book two {text}")
                begun = time.perf_counter()
                shell.run(first)
                self.assertLess(time.perf_counter() - begun, 1, first)

    def test_sizes_of_great_trees(self):
        # Each sign has just five brothers of the lot of the sign before: so the last one's trees have 19531 places.
        made = ["x", "y", "z", "xy", "xz", "yz", "xyz"]
        lines = ["signs a b c d e f g"]
        for sign, lot, before in zip("abcdefg", made, ["", *made]):
            asks = "*:5-5 " + " ".join(f"{kind}:5-5" if kind in before else f"{kind}:0-0" for kind in "xyz")
            lines += [f"{kind} = {sign} {asks if before else '*:0-0'}" for kind in lot]
        shell = Shell()
        shell.run("book one " + word_of("\n".join(lines)))
        shell.run("book two signs_a_b_c_d_e_f_g")
        begun = time.perf_counter()
        for wish, expected in [("and_x_and_not_y_not_z", "1"), ("and_x_and_y_not_z", "156"), ("and_x_and_y_z", "19531")]:
            self.assertEqual((shell.run(f"made one {wish}"), shell.run(f"alike one {wish} two k")), (expected, expected))
        self.assertLess(time.perf_counter() - begun, 2)

    def test_many_small_lines(self):
        shell = filled()
        begun = time.perf_counter()
        for line in LINES[1:] * 100:
            shell.run(line)
        self.assertLess(time.perf_counter() - begun, 1100 * 0.005)


if __name__ == "__main__":
    unittest.main()
