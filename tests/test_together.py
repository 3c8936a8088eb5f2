"""Promises 6 and 13 to 17 together: what one call tells agrees with what the others tell."""

import random
import unittest

from broodcounts.beside import are_alike, holds
from broodcounts.broods import brood_of, step
from broodcounts.counting import count, listed
from broodcounts.endless import all_trees, growth, is_finite
from broodcounts.errors import TooMany
from broodcounts.made import is_made, least_size
from broodcounts.surroundings import kin_classes, parter
from broodcounts.tables import lots, table
from broodcounts.trees import size, trees_of_size
from broodcounts.wishes import is_wished, lot_of
from tests import naive
from tests.support import BOOK, CallCase


class TogetherTest(CallCase):
    def books(self, seed):
        return [BOOK, *naive.random_books(seed, 40), *naive.random_books(seed, 10, kinds="xyz", bound=1, most=30)]

    def test_each_tree_stands_in_the_table(self):
        for book in self.books(91):
            rows, broods = table(book)
            there = [lot for lot, _ in rows]
            for places in (1, 2, 3):
                for tree in trees_of_size(book.signs, places):
                    brood = brood_of(book, [lot_of(book, brother) for brother in tree[1:]])
                    self.assertIn(lot_of(book, tree), there)
                    self.assertIn(brood, broods)
                    self.assertEqual(step(book, tree[0], brood), lot_of(book, tree))

    def test_what_is_made_is_listed_and_counted(self):
        source = random.Random(92)
        for book in self.books(92):
            wish = naive.random_wish(source, ["x", "y", "even", "nokind"])
            self.assertIs(is_made(book, wish), any(is_wished(wish, lot) for lot in lots(book)))
            counts = [count(book, wish, places) for places in range(1, 21)]
            for places in (1, 2, 3, 4):
                self.assertEqual(len(listed(book, wish, places)), counts[places - 1])
            first = least_size(book, wish)
            found = [places for places in range(1, 21) if counts[places - 1]]
            self.assertEqual(first if first and first <= 20 else None, found[0] if found else None)

    def test_what_is_finite_is_listed_whole_and_what_is_not_has_a_growth(self):
        source = random.Random(93)
        for book in self.books(93):
            wish = naive.random_wish(source, ["x", "y", "leaf", "nokind"])
            self.assertIs(growth(book, wish) is None, is_finite(book, wish))
            if is_finite(book, wish):
                found = all_trees(book, wish)
                self.assertEqual(bool(found), is_made(book, wish))
                self.assertEqual(sum(count(book, wish, places) for places in range(1, 21)),
                                 sum(1 for tree in found if size(book.signs, tree) <= 20))
            else:
                self.assertTrue(is_made(book, wish))
                self.assert_raises_exactly(TooMany, all_trees, book, wish)

    def test_a_wish_holds_its_narrower_one(self):
        source = random.Random(94)
        for book in self.books(94):
            wish, other = naive.random_wish(source, ["x", "y"]), naive.random_wish(source, ["x", "even"])
            self.assertIs(holds(book, wish, book, ("and", wish, other)), True)
            self.assertIs(holds(book, other, book, wish), not is_made(book, ("and", wish, ("not", other))))
            self.assertIs(are_alike(book, wish, book, ("not", wish)), False)

    def test_kin_trees_are_of_the_wish_both_or_none(self):
        source = random.Random(95)
        for book in self.books(95):
            wish = naive.random_wish(source, ["x", "y", "wide"])
            for row in kin_classes(book, wish):
                self.assertEqual(len({is_wished(wish, lot) for lot in row}), 1)
            if not is_made(book, wish) or not is_made(book, ("not", wish)):
                self.assertEqual(kin_classes(book, wish), [lots(book)])
                self.assertIsNone(parter(book, wish, (book.signs[0],), (book.signs[-1],)))


if __name__ == "__main__":
    unittest.main()
