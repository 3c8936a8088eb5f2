"""Promises 4 and 10: asks, rules and books."""

import inspect
import unittest

from broodcounts import books
from broodcounts.books import Book, is_ask, is_fit, is_rule
from broodcounts.errors import InvalidAsk, InvalidMatch, InvalidNumber, InvalidRules, InvalidSigns
from tests.support import LEAVES, NO_BROTHERS, RULES, SIGNS, CallCase, odd_objects

NO_ASKS = [
    ("k", -1, None, 1, 0), ("k", 6, None, 1, 0), ("k", 0, 6, 1, 0), ("k", 3, 2, 1, 0), ("k", 0, -1, 1, 0),
    ("k", 0, None, 0, 0), ("k", 0, None, 4, 0), ("k", 0, None, -1, 0), ("k", 0, None, 1, 1), ("k", 0, None, 2, 2),
    ("k", 0, None, 3, 3), ("k", 0, None, 3, -1), ("k", 0, None, None, 0), ("k", 0, None, 1, None),
    ("k", None, None, 1, 0), ("k", True, None, 1, 0), ("k", False, None, 1, 0), ("k", 0, True, 1, 0),
    ("k", 0, False, 1, 0), ("k", 0, None, True, 0), ("k", 0, None, 1, False), ("k", 0, None, 2, True),
    ["k", 0, None, 1, 0], ("k", 0, None, 1), ("k", 0, None, 1, 0, 0), (), ("K", 0, None, 1, 0),
    ("", 0, None, 1, 0), ("abcdefghi", 0, None, 1, 0), (0, 0, None, 1, 0), (True, 0, None, 1, 0),
    (["k"], 0, None, 1, 0), (("k",), 0, None, 1, 0), ("k", "0", None, 1, 0), ("k", 0, "5", 1, 0),
    ("k", 0, None, "1", 0), ("k", 0, None, 1, "0"), ("k", [0], None, 1, 0), ("k", 0, (5,), 1, 0),
    ("k", 0, {}, 1, 0), ("k", 0, None, [], 0), ("k", 0, None, 1, {}),
]
NO_RULES = [
    ("k", "z", ()), ("k", "ab", ()), ("k", None, ()), ("k", ["a"], ()), ("k", ("a",), ()), ("k", "", ()),
    ("K", "a", ()), ("", "a", ()), (None, "a", ()), (1, "a", ()), (["k"], "a", ()), ("abcdefghi", "a", ()),
    ("k", "a", []), ("k", "a", [NO_BROTHERS]), ("k", "a", None), ("k", "a", "ab"), ("k", "a", {}),
    ("k", "a", NO_BROTHERS), ("k", "a", (None,)), ("k", "a", ((),)), ("k", "a", (NO_BROTHERS, ["k", 0, None, 1, 0])),
    ("k", "a"), ("k", "a", (), ()), ["k", "a", ()], (), ("k", "a", ((NO_BROTHERS,),)),
] + [("k", "a", (NO_BROTHERS, ask)) for ask in NO_ASKS]


class AskTest(CallCase):
    def test_asks(self):
        self.assert_each_true(is_ask, [
            ("k", 0, None, 1, 0), (None, 0, None, 1, 0), ("abcdefgh", 5, None, 1, 0), ("k", 0, 0, 1, 0),
            ("k", 5, 5, 1, 0), ("k", 0, 5, 1, 0), ("k", 2, 3, 2, 1), ("k", 0, None, 3, 2), ("k", 0, None, 3, 0),
        ])

    def test_bounds(self):
        for low in range(-1, 7):
            for high in [None, *range(-1, 7)]:
                expected = 0 <= low <= 5 and (high is None or low <= high <= 5)
                self.assertIs(is_ask(("k", low, high, 1, 0)), expected)
        for step in range(-1, 6):
            for rest in range(-1, 6):
                self.assertIs(is_ask((None, 0, None, step, rest)), 1 <= step <= 3 and 0 <= rest < step)

    def test_no_asks(self):
        self.assert_each_false(is_ask, NO_ASKS)

    def test_any_object(self):
        self.assert_each_false(is_ask, odd_objects())
        # Those that an ask may contain at some place are tested above.
        things = [thing for thing in odd_objects() if type(thing) is not int and thing not in (None, "a", "abcdefgh")]
        for at in range(5):
            for thing in things:
                ask = ["k", 1, 1, 2, 1]
                ask[at] = thing
                self.assertIs(is_ask(tuple(ask)), False)


class FitTest(CallCase):
    def test_low_and_high(self):
        ask = ("k", 2, 4, 1, 0)
        self.assertEqual([number for number in range(10) if is_fit(ask, number)], [2, 3, 4])

    def test_no_high(self):
        ask = ("k", 3, None, 1, 0)
        self.assertEqual([number for number in range(8) if is_fit(ask, number)], [3, 4, 5, 6, 7])

    def test_high_zero(self):
        self.assertEqual([number for number in range(4) if is_fit((None, 0, 0, 1, 0), number)], [0])

    def test_each_rest(self):
        for step in (1, 2, 3):
            for rest in range(step):
                ask = (None, 1, None, step, rest)
                self.assertEqual([number for number in range(20) if is_fit(ask, number)],
                                 [number for number in range(1, 20) if number % step == rest])

    def test_all_at_once(self):
        self.assertEqual([number for number in range(12) if is_fit(("k", 1, 5, 3, 2), number)], [2, 5])

    def test_forty_figures(self):
        great = 10 ** 40 - 1
        self.assertIs(is_fit(("k", 5, None, 1, 0), great), True)
        self.assertIs(is_fit(("k", 0, 5, 1, 0), great), False)
        self.assertIs(is_fit(("k", 0, None, 3, 0), great), True)
        self.assertIs(is_fit(("k", 0, None, 3, 1), great), False)
        self.assertIs(is_fit(("k", 0, None, 2, 1), great), True)

    def test_invalid_number(self):
        ask = ("k", 0, None, 1, 0)
        self.assert_each_raises(InvalidNumber, lambda number: is_fit(ask, number),
                                [-1, True, False, None, "1", "", [1], (1,), {1: 1}, -(10 ** 39)])
        numbers = [0, 1, 13, 10 ** 40 - 1]
        self.assert_each_raises(InvalidNumber, lambda number: is_fit(ask, number), [
            thing for thing in odd_objects() if type(thing) is not int or thing not in numbers
        ])

    def test_invalid_ask(self):
        self.assert_each_raises(InvalidAsk, lambda ask: is_fit(ask, 1), NO_ASKS + odd_objects())

    def test_invalid_ask_comes_first(self):
        self.assert_each_raises(InvalidAsk, lambda ask: is_fit(ask, -1), NO_ASKS)
        self.assert_raises_exactly(InvalidAsk, is_fit, None, None)


class RuleTest(CallCase):
    def test_rules(self):
        self.assert_each_true(lambda thing: is_rule(SIGNS, thing), RULES + [
            ("k", "a", ()), ("a", "f", ()), ("abcdefgh", "b", (NO_BROTHERS,) * 50), ("k", "a", (("z", 5, 5, 3, 2),)),
        ])

    def test_no_rules(self):
        self.assert_each_false(lambda thing: is_rule(SIGNS, thing), NO_RULES)

    def test_any_object(self):
        self.assert_each_false(lambda thing: is_rule(SIGNS, thing), odd_objects())
        self.assert_each_false(lambda thing: is_rule(SIGNS, ("k", "a", (thing,))), odd_objects())
        no_asks = [thing for thing in odd_objects() if thing != ()]
        self.assert_each_false(lambda thing: is_rule(SIGNS, ("k", "a", thing)), no_asks)
        no_signs = [thing for thing in odd_objects() if thing != "a"]
        self.assert_each_false(lambda thing: is_rule(SIGNS, ("k", thing, ())), no_signs)
        no_names = [thing for thing in odd_objects() if thing not in ("a", "abcdefgh")]
        self.assert_each_false(lambda thing: is_rule(SIGNS, (thing, "a", ())), no_names)

    def test_sign_of_other_signs(self):
        self.assertIs(is_rule(["z"], ("k", "z", ())), True)
        self.assertIs(is_rule(["z"], ("k", "a", ())), False)

    def test_invalid_signs(self):
        no_signs = [[], ["A"], ["a", "a"], ("a",), list("abcdefghi"), *odd_objects()]
        self.assert_each_raises(InvalidSigns, lambda signs: is_rule(signs, ("k", "a", ())), no_signs)
        self.assert_each_raises(InvalidSigns, lambda signs: is_rule(signs, None), no_signs)


class BookTest(CallCase):
    def test_properties(self):
        book = Book(["f", "a", "b"], RULES)
        self.assertEqual(book.signs, ["f", "a", "b"])
        self.assertEqual(book.rules, RULES)
        self.assertEqual(book.kinds, ["even", "leaf", "wide"])
        self.assertEqual(len(book), 4)

    def test_no_rules_at_all(self):
        book = Book(["a"], [])
        self.assertEqual((book.signs, book.rules, book.kinds, len(book)), (["a"], [], [], 0))

    def test_rules_stay_in_order_and_as_often_as_they_stand(self):
        rules = [RULES[3], RULES[0], RULES[3], RULES[1]]
        book = Book(SIGNS, rules)
        self.assertEqual(book.rules, rules)
        self.assertEqual(len(book), 4)

    def test_kinds_from_rules_and_from_asks(self):
        self.assertEqual(Book(["a"], [("k", "a", ())]).kinds, ["k"])
        self.assertEqual(Book(["a"], [("k", "a", (("z", 0, None, 1, 0), NO_BROTHERS, ("b", 1, 2, 1, 0)))]).kinds,
                         ["b", "k", "z"])
        self.assertEqual(Book(["a"], [("k", "a", (("k", 0, None, 1, 0),)), ("b", "a", ()), ("k", "a", ())]).kinds,
                         ["b", "k"])
        self.assertEqual(Book(["a"], [("b", "a", ()), ("ab", "a", ()), ("a", "a", (NO_BROTHERS,))]).kinds,
                         ["a", "ab", "b"])

    def test_two_hundred_rules(self):
        rules = [("k", "a", ())] * 200
        self.assertEqual(len(Book(["a"], rules)), 200)
        self.assert_raises_exactly(InvalidRules, Book, ["a"], rules + rules[:1])

    def test_many_asks(self):
        rules = [("k", "a", (NO_BROTHERS,) * 100)] * 200
        self.assertEqual(Book(["a"], rules).rules, rules)

    def test_changes_outside_do_not_reach_the_book(self):
        signs, rules = list(SIGNS), list(RULES)
        book = Book(signs, rules)
        signs.append("z")
        signs[0] = "y"
        rules.append(("new", "a", ()))
        rules[0] = ("other", "a", ())
        self.assertEqual((book.signs, book.rules, len(book)), (SIGNS, RULES, 4))
        self.assertEqual(book.kinds, ["even", "leaf", "wide"])
        self.assertEqual(book, Book(SIGNS, RULES))

    def test_changes_of_what_is_told_do_not_reach_the_book(self):
        book = Book(SIGNS, RULES)
        book.signs.append("z")
        book.signs[0] = "y"
        book.rules.append(("new", "a", ()))
        book.rules[0] = None
        book.kinds.append("new")
        book.kinds[0] = None
        self.assertEqual((book.signs, book.rules, len(book)), (SIGNS, RULES, 4))
        self.assertEqual(book.kinds, ["even", "leaf", "wide"])

    def test_invalid_signs(self):
        no_signs = [[], ["A"], ["a", "a"], ("a",), list("abcdefghi"), *odd_objects()]
        self.assert_each_raises(InvalidSigns, lambda signs: Book(signs, []), no_signs)
        self.assert_each_raises(InvalidSigns, lambda signs: Book(signs, None), no_signs)

    def test_invalid_rules(self):
        no_lists = [thing for thing in odd_objects() if thing != []]
        self.assert_each_raises(InvalidRules, lambda rules: Book(SIGNS, rules), no_lists)
        self.assert_each_raises(InvalidRules, lambda rules: Book(SIGNS, rules), [tuple(RULES), dict.fromkeys(RULES)])
        self.assert_each_raises(InvalidRules, lambda rule: Book(SIGNS, RULES + [rule]), NO_RULES + odd_objects())
        self.assert_each_raises(InvalidRules, lambda rule: Book(SIGNS, [rule] + RULES), NO_RULES)

    def test_methods_stand_in_the_class_itself(self):
        for name in ("signs", "rules", "kinds", "__len__", "__eq__", "__or__"):
            self.assertIn(name, vars(Book))
        for name in ("is_ask", "is_fit", "is_rule", "Book"):
            self.assertEqual(inspect.getmodule(getattr(books, name)), books)


class EqualTest(CallCase):
    def test_equal(self):
        book = Book(SIGNS, RULES)
        for other in (book, Book(SIGNS, RULES), Book(["f", "b", "a"], RULES), Book(["b", "a", "f"], list(RULES))):
            self.assertIs(book == other, True)
            self.assertIs(other == book, True)
            self.assertIs(book != other, False)
        self.assertIs(Book(["a"], []) == Book(["a"], []), True)

    def test_not_equal(self):
        book = Book(SIGNS, RULES)
        for other in [
            Book(SIGNS, RULES[::-1]), Book(SIGNS, RULES[:3]), Book(SIGNS, RULES + RULES[:1]), Book(SIGNS, []),
            Book(SIGNS + ["z"], RULES), Book(["a", "b", "f", "z"], RULES),
            Book(SIGNS, RULES[:3] + [("wide", "f", (("leaf", 2, None, 1, 0),))]),
        ]:
            self.assertIs(book == other, False)
            self.assertIs(other == book, False)
            self.assertIs(book != other, True)
        self.assertIs(Book(["a"], []) == Book(["b"], []), False)

    def test_other_things(self):
        book = Book(SIGNS, RULES)
        for other in [(SIGNS, RULES), RULES, SIGNS, 4, *odd_objects()]:
            if not isinstance(other, Book):
                self.assertIs(book == other, False)
                self.assertIs(book != other, True)


class JoinTest(CallCase):
    def test_rules_of_the_other_one_come_behind(self):
        book = Book(SIGNS, RULES[:2]) | Book(SIGNS, RULES[2:])
        self.assertIsInstance(book, Book)
        self.assertEqual((book.signs, book.rules, len(book)), (SIGNS, RULES, 4))
        self.assertEqual(book.kinds, ["even", "leaf", "wide"])

    def test_rules_that_both_have(self):
        book = Book(SIGNS, RULES[:3]) | Book(SIGNS, [RULES[3], RULES[1], RULES[0]])
        self.assertEqual(book.rules, RULES)
        book = Book(SIGNS, RULES) | Book(SIGNS, RULES[::-1])
        self.assertEqual(book.rules, RULES)

    def test_rules_that_stand_twice(self):
        one, other = RULES[0], RULES[1]
        self.assertEqual((Book(SIGNS, [one, one]) | Book(SIGNS, [other])).rules, [one, one, other])
        self.assertEqual((Book(SIGNS, [one, one]) | Book(SIGNS, [one, other])).rules, [one, one, other])
        self.assertEqual((Book(SIGNS, [one]) | Book(SIGNS, [one, one])).rules, [one])
        self.assertEqual((Book(SIGNS, [one]) | Book(SIGNS, [other, one, other])).rules, [one, other, other])

    def test_no_rules(self):
        self.assertEqual((Book(SIGNS, []) | Book(SIGNS, RULES)).rules, RULES)
        self.assertEqual((Book(SIGNS, RULES) | Book(SIGNS, [])).rules, RULES)
        self.assertEqual((Book(SIGNS, []) | Book(SIGNS, [])).rules, [])

    def test_signs_are_those_of_the_first_one(self):
        book = Book(["f", "a", "b"], RULES[:1]) | Book(["b", "f", "a"], RULES[1:])
        self.assertEqual((book.signs, book.rules), (["f", "a", "b"], RULES))

    def test_both_stay_as_they_are(self):
        one, other = Book(["f", "a", "b"], RULES[:2]), Book(["b", "f", "a"], RULES[1:])
        both = one | other
        both.rules.append(None)
        self.assertEqual((one.signs, one.rules, one.kinds), (["f", "a", "b"], RULES[:2], ["leaf"]))
        self.assertEqual((other.signs, other.rules), (["b", "f", "a"], RULES[1:]))

    def test_other_signs(self):
        for signs in (["a"], ["a", "b"], ["a", "b", "g"], ["a", "b", "f", "g"]):
            with self.assertRaises(InvalidMatch):
                Book(SIGNS, []) | Book(signs, [])
            with self.assertRaises(InvalidMatch):
                Book(signs, []) | Book(SIGNS, [])

    def test_too_many_rules(self):
        names = [first + second for first in "abcdefghijklmnopqrst" for second in "abcdefghijk"]
        rules = [(name, "a", ()) for name in names]
        self.assertEqual((Book(SIGNS, rules[:150]) | Book(SIGNS, rules[100:200])).rules, rules[:200])
        with self.assertRaises(InvalidRules):
            Book(SIGNS, rules[:150]) | Book(SIGNS, rules[100:201])
        with self.assertRaises(InvalidRules):
            Book(SIGNS, rules[:200]) | Book(SIGNS, rules[200:201])
        with self.assertRaises(InvalidRules):
            Book(SIGNS, rules[:1]) | Book(SIGNS, rules[1:2] * 200)

    def test_invalid_match_comes_first(self):
        rules = [("k", "a", ())] * 150
        others = [("l", "a", ())] * 150
        with self.assertRaises(InvalidMatch):
            Book(["a"], rules) | Book(["a", "b"], others)

    def test_no_book(self):
        with self.assertRaises(TypeError):
            Book(SIGNS, LEAVES) | LEAVES


if __name__ == "__main__":
    unittest.main()
