"""Promises 3 to 7 and 11 to 22: what trees alone tell stays the same however the book is written."""

import random
import unittest

from broodcounts.beside import are_alike, holds, parting
from broodcounts.books import Book
from broodcounts.counting import count, listed, place_of, tree_at
from broodcounts.endless import all_trees, growth, is_finite, is_growth
from broodcounts.errors import TooMany
from broodcounts.made import is_made, least_size
from broodcounts.mending import least_added, least_taken
from broodcounts.met import never_met, numbers_met
from broodcounts.needless import needless_asks, needless_rules
from broodcounts.reader import Reader
from broodcounts.surroundings import are_kin, kin_classes, parter
from broodcounts.tables import lots
from broodcounts.trees import size, trees_of_size
from broodcounts.wishes import is_of, lot_of
from tests import naive
from tests.support import BOOK, CallCase, read


def renamed_wish(wish, names):
    if isinstance(wish, str):
        return names.get(wish, wish)
    return (wish[0], *[renamed_wish(part, names) for part in wish[1:]])


def renamed(rule, names):
    kind, sign, asks = rule
    return (names.get(kind, kind), sign, tuple((names.get(ask[0], ask[0]), *ask[1:]) for ask in asks))


def renamed_lot(lot, names):
    return tuple(sorted(names.get(kind, kind) for kind in lot))


def turned(tree):
    return (tree[0], *[turned(brother) for brother in reversed(tree[1:])])


def some_trees(book, wish):
    try:
        return all_trees(book, wish)
    except TooMany:
        return "no end"


def total(book, trees):
    return None if trees is None else sum(size(book.signs, tree) for tree in trees)


def told(book, wish, tree, other):
    """All that trees alone tell of a wish and two trees, by numbers and trees."""
    taken = least_taken(book, wish, tree)
    apart = parting(book, wish, BOOK if sorted(book.signs) == ["a", "b", "f"] else book, "x")
    reader = Reader(book)
    reader.begin(tree[0])
    return [
        is_of(book, wish, tree), is_made(book, wish), least_size(book, wish), is_finite(book, wish),
        growth(book, wish) is None, some_trees(book, wish), [count(book, wish, places) for places in range(1, 7)],
        listed(book, wish, 3), tree_at(book, wish, 3, 0) if count(book, wish, 3) else None,
        place_of(book, wish, tree) if is_of(book, wish, tree) and size(book.signs, tree) < 5 else None, apart and size(book.signs, apart),
        are_kin(book, wish, tree, other), parter(book, wish, tree, other) is None,
        total(book, least_added(book, wish, tree)), taken and len(taken),
        [numbers_met(book, wish, sign, None) for sign in sorted(book.signs)],
        reader.can_become(wish), reader.must_become(wish),
    ]


class SameTest(CallCase):
    def cases(self, seed, many=30):
        source = random.Random(seed)
        for book in naive.random_books(seed, many):
            wish = naive.random_wish(source, ["x", "y"])
            tree, other = [naive.random_tree(source, book.signs, source.randint(1, 5)) for _ in range(2)]
            yield source, book, wish, tree, other

    def check(self, book, changed, wish, tree, other):
        self.assertEqual(told(changed, wish, tree, other), told(book, wish, tree, other))
        self.assertIs(are_alike(book, wish, changed, wish), True)
        self.assertIs(holds(changed, wish, book, wish), True)

    def test_rules_in_another_order(self):
        for source, book, wish, tree, other in self.cases(201):
            order = list(range(len(book)))
            source.shuffle(order)
            changed = Book(book.signs, [book.rules[index] for index in order])
            self.check(book, changed, wish, tree, other)
            self.assertEqual((lots(changed), lot_of(changed, tree)), (lots(book), lot_of(book, tree)))
            self.assertEqual(kin_classes(changed, wish), kin_classes(book, wish))
            for call in (needless_rules, never_met):
                self.assertEqual(sorted(order[index] for index in call(changed, wish)), call(book, wish))
            self.assertEqual(sorted((order[index], ask) for index, ask in needless_asks(changed, wish)),
                             needless_asks(book, wish))

    def test_rules_that_stand_twice(self):
        for source, book, wish, tree, other in self.cases(202):
            if len(book) == 0:
                continue
            twice = source.randrange(len(book))
            changed = Book(book.signs, book.rules + [book.rules[twice]])
            self.check(book, changed, wish, tree, other)
            self.assertEqual((lots(changed), kin_classes(changed, wish)), (lots(book), kin_classes(book, wish)))
            last = len(book)
            self.assertEqual(needless_rules(changed, wish), sorted({*needless_rules(book, wish), twice, last}))
            kept = [index for index in never_met(changed, wish) if index != last]
            self.assertEqual((kept, twice in kept), (never_met(book, wish), last in never_met(changed, wish)))

    def test_asks_turned_round(self):
        for _, book, wish, tree, other in self.cases(203):
            changed = Book(book.signs, [(kind, sign, asks[::-1]) for kind, sign, asks in book.rules])
            self.check(book, changed, wish, tree, other)
            self.assertEqual((lots(changed), kin_classes(changed, wish)), (lots(book), kin_classes(book, wish)))
            self.assertEqual((needless_rules(changed, wish), never_met(changed, wish)),
                             (needless_rules(book, wish), never_met(book, wish)))
            back = [(index, len(book.rules[index][2]) - 1 - ask) for index, ask in needless_asks(changed, wish)]
            self.assertEqual(sorted(back), needless_asks(book, wish))

    def test_kinds_of_other_names(self):
        for _, book, wish, tree, other in self.cases(204):
            names = {"x": "zz", "y": "a"}
            changed, other_wish = Book(book.signs, [renamed(rule, names) for rule in book.rules]), renamed_wish(wish, names)
            one, two = told(book, wish, tree, other), told(changed, other_wish, tree, other)
            # What is told beside a wish "x" of another book is not renamed.
            self.assertEqual(two[:10] + two[11:], one[:10] + one[11:])
            self.assertIs(are_alike(book, wish, changed, other_wish), True)
            self.assertEqual(lots(changed), sorted(renamed_lot(lot, names) for lot in lots(book)))
            self.assertEqual(kin_classes(changed, other_wish), sorted(
                sorted(renamed_lot(lot, names) for lot in row) for row in kin_classes(book, wish)))
            for call in (needless_rules, needless_asks, never_met):
                self.assertEqual(call(changed, other_wish), call(book, wish))
            for kind in ("x", "y"):
                self.assertEqual(numbers_met(changed, other_wish, tree[0], names[kind]),
                                 numbers_met(book, wish, tree[0], kind))

    def test_signs_in_another_order(self):
        for _, book, wish, tree, other in self.cases(205):
            changed = Book(book.signs[::-1], book.rules)
            self.check(book, changed, wish, tree, other)
            self.assertEqual((lots(changed), kin_classes(changed, wish)), (lots(book), kin_classes(book, wish)))
            for call in (needless_rules, needless_asks, never_met):
                self.assertEqual(call(changed, wish), call(book, wish))

    def test_brothers_turned_round(self):
        for _, book, wish, tree, other in self.cases(206, 60):
            self.assertEqual(told(book, wish, turned(tree), turned(other)), told(book, wish, tree, other))
            self.assertEqual(lot_of(book, turned(tree)), lot_of(book, tree))
            found = growth(book, wish)
            if found and found[0] == "wide":
                word, grown, brothers, outer = found
                self.assertIs(is_growth(book, wish, (word, turned(grown), brothers[::-1], outer)), True)


class TogetherTest(CallCase):
    """Promises 16 to 21 together."""

    def test_without_what_is_needless_a_wish_is_alike(self):
        source = random.Random(207)
        for book in naive.random_books(207, 60):
            wish = naive.random_wish(source, ["x", "y"])
            for index, rule in enumerate(book.rules):
                less = Book(book.signs, book.rules[:index] + book.rules[index + 1:])
                self.check(book, less, wish, index in needless_rules(book, wish))
                for ask in range(len(rule[2])):
                    rules = book.rules
                    rules[index] = (*rule[:2], rule[2][:ask] + rule[2][ask + 1:])
                    self.check(book, Book(book.signs, rules), wish, (index, ask) in needless_asks(book, wish))

    def check(self, one, other, wish, same):
        self.assertIs(are_alike(one, wish, other, wish), same)
        self.assertIs(parting(one, wish, other, wish) is None, same)
        self.assertIs(holds(one, wish, other, wish) and holds(other, wish, one, wish), same)

    def test_kin_trees_go_for_one_another_through_surroundings(self):
        source = random.Random(208)
        for book in naive.random_books(208, 60):
            wish = naive.random_wish(source, ["x", "y"])
            one, other = [naive.random_tree(source, book.signs, source.randint(1, 4)) for _ in range(2)]
            kin = are_kin(book, wish, one, other)
            for _ in range(20):
                frame = naive.random_tree(source, book.signs, source.randint(1, 4))
                around = [(frame[0], part, *frame[1:]) for part in (one, other)]
                if kin:
                    self.assertIs(is_of(book, wish, around[0]), is_of(book, wish, around[1]))
                    self.assertIs(are_kin(book, wish, *around), True)
                elif is_of(book, wish, around[0]) != is_of(book, wish, around[1]):
                    self.assertIsNotNone(parter(book, wish, one, other))

    def test_what_is_mended_is_of_the_wish(self):
        source = random.Random(209)
        for book in naive.random_books(209, 100):
            wish = naive.random_wish(source, ["x", "y"])
            tree = naive.random_tree(source, book.signs, source.randint(1, 6))
            added, taken = least_added(book, wish, tree), least_taken(book, wish, tree)
            if added is not None:
                self.assertIs(is_of(book, wish, (*tree, *added)), True)
            if taken is not None:
                left = [part for place, part in enumerate(tree[1:]) if place not in taken]
                self.assertIs(is_of(book, wish, (tree[0], *left)), True)
            self.assertEqual((added == [], taken == []), (is_of(book, wish, tree),) * 2)
            if not is_made(book, wish):
                self.assertEqual((added, taken), (None, None))

    def test_numbers_that_are_met_and_rules_that_are_not(self):
        source = random.Random(210)
        for book in naive.random_books(210, 60):
            wish = naive.random_wish(source, ["x", "y"])
            met = {(sign, kind): numbers_met(book, wish, sign, kind) for sign in book.signs for kind in ("x", "y", None)}
            self.assertEqual(is_made(book, wish), any(met.values()))
            never = never_met(book, wish)
            for tree in [tree for places in range(1, 5) for tree in listed(book, wish, places)]:
                for part in self.standing_in(tree):
                    lots_beneath = [lot_of(book, brother) for brother in part[1:]]
                    for index in never:
                        self.assertFalse(self.makes(book.rules[index], part[0], lots_beneath))
                self.assertIn(len(tree) - 1, met[tree[0], None])
                for kind in ("x", "y"):
                    many = sum(kind in lot_of(book, brother) for brother in tree[1:])
                    self.assertIn(many, met[tree[0], kind])

    def standing_in(self, tree):
        return [tree] + [part for brother in tree[1:] for part in self.standing_in(brother)]

    def makes(self, rule, sign, lots_beneath):
        return rule[1] == sign and all(naive.fitted(ask, naive.number_of(lots_beneath, ask[0])) for ask in rule[2])

    def test_rules_that_are_never_met_are_needless(self):
        source = random.Random(211)
        for book in naive.random_books(211, 100):
            wish = naive.random_wish(source, ["x", "y"])
            both = set(never_met(book, wish)) & set(never_met(book, ("not", wish)))
            self.assertTrue(both <= set(needless_rules(book, wish)))

    def test_readers_and_mending(self):
        source = random.Random(212)
        for book in naive.random_books(212, 100):
            wish = naive.random_wish(source, ["x", "y"])
            tree = naive.random_tree(source, book.signs, source.randint(1, 5))
            reader = Reader(book)
            reader.begin(tree[0])
            for brother in tree[1:]:
                read(reader, brother)
            self.assertIs(reader.can_become(wish), least_added(book, wish, tree) is not None)
            self.assertIs(reader.must_become(wish), least_added(book, ("not", wish), tree) is None)
            self.assertEqual(reader.close(), lot_of(book, tree))


class AllTreesTest(CallCase):
    """Promise 1: what is decided is decided for all trees."""

    def test_decisions_agree_with_all_small_trees(self):
        source = random.Random(213)
        for book in naive.random_books(213, 60):
            wish = naive.random_wish(source, ["x", "y"])
            trees = [tree for places in range(1, 5) for tree in trees_of_size(book.signs, places)]
            found = [tree for tree in trees if naive.is_met(wish, naive.lot(book, tree))]
            if not is_made(book, wish):
                self.assertEqual(found, [])
            if not is_made(book, ("not", wish)):
                self.assertEqual(found, trees)
            if is_finite(book, wish):
                self.assertTrue({*found} <= {*self.whole(book, wish, found)})

    def whole(self, book, wish, found):
        try:
            return all_trees(book, wish)
        except TooMany:
            return found


if __name__ == "__main__":
    unittest.main()
