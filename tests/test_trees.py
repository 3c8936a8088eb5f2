"""Promises 3 and 9: signs and trees."""

import time
import unittest

from broodcounts.errors import InvalidNumber, InvalidSigns, InvalidTree, TooMany
from broodcounts.trees import alike, depth, is_signs, is_tree, parts, plain, size, trees_of_size
from tests.support import A, B, SIGNS, CallCase, alike_by_definition, chain, nested, odd_objects, ordered_trees

NO_SIGNS = [
    [], list("abcdefghi"), ["a", "a"], ["a", "b", "a"], ["abcdefghi"], ["A"], ["a", "aB"], [""], ["a", ""],
    ("a",), ("a", "b"), "ab", {"a": "b"}, ["a", None], ["a", 1], [["a"]], [("a",)], ["a1"], ["a "], ["a_b"],
    ["a\n"], ["`"], ["{"], [" "],
]
NO_TREES = [
    (), [], ["a"], None, "a", 0, True, ("z",), ("A",), ("",), (None,), (0,), (("a",),), (["a"],),
    ("a", "a"), ("a", None), ("a", ["a"]), ("a", ()), ("a", ("z",)), ("a", A, "b"), ("a", A, B, []),
    ("f", A, ("f", B, ("f", A, None))), ("f", ("f", ("f", ()))), ("f", ("f", ("f", ["a"]), A), A),
    ("f", ("f", ("f", ("ab",)))), ("f", A, ("f", (None,))), ("f", A, {"a": "b"}), ("f", ("f", A, 1), A),
    ("a", "b", "f"), ("f", (A,)), ("f", ("f", (A, B))),
]


class SignsTest(CallCase):
    def test_signs(self):
        self.assert_each_true(is_signs, [
            ["a"], ["z"], ["a", "b"], ["b", "a"], list("hgfedcba"), ["abcdefgh"], ["stuvwxyz", "s", "st"],
        ])

    def test_no_signs(self):
        self.assert_each_false(is_signs, NO_SIGNS)

    def test_any_object(self):
        self.assert_each_false(is_signs, odd_objects())


class IsTreeTest(CallCase):
    def test_trees(self):
        self.assert_each_true(lambda thing: is_tree(SIGNS, thing), [
            A, ("f",), ("a", A), ("a", A, A, A), ("f", B, A), ("f", ("f", B), A, B), ("b", ("a", ("f", A))),
            chain(40), ("a",) + (A,) * 4999,
        ])

    def test_no_trees(self):
        self.assert_each_false(lambda thing: is_tree(SIGNS, thing), NO_TREES)

    def test_any_object(self):
        self.assert_each_false(lambda thing: is_tree(SIGNS, thing), odd_objects())
        self.assert_each_false(lambda thing: is_tree(SIGNS, ("f", A, thing)), odd_objects())

    def test_wrong_at_the_bottom(self):
        for wrong in ((), None, [], ("z",), "a"):
            tree = wrong
            for _ in range(39):
                tree = ("f", A, tree, B)
            self.assertIs(is_tree(SIGNS, tree), False)

    def test_signs_of_other_lists(self):
        self.assertIs(is_tree(["ab", "c"], ("ab", ("c",))), True)
        self.assertIs(is_tree(["ab", "c"], ("a",)), False)
        self.assertIs(is_tree(["a"], ("a", B)), False)

    def test_invalid_signs(self):
        self.assert_each_raises(InvalidSigns, lambda signs: is_tree(signs, A), NO_SIGNS + odd_objects())
        self.assert_each_raises(InvalidSigns, lambda signs: is_tree(signs, None), NO_SIGNS)


class SizeAndDepthTest(CallCase):
    def test_size(self):
        for tree, places in [(A, 1), (("a", A), 2), (("f", A, A), 3), (("f", B, ("f", A, B), A), 6), (chain(40), 40)]:
            self.assertEqual(size(SIGNS, tree), places)

    def test_depth(self):
        for tree, levels in [(A, 1), (("a", A, B), 2), (("f", B, ("f", A), B), 3), (("f", ("f", A), B), 3),
                             (("f", ("f", A), ("f", ("f", B))), 4), (chain(40), 40)]:
            self.assertEqual(depth(SIGNS, tree), levels)

    def test_large(self):
        wide = ("f",) + (A,) * 4999
        self.assertEqual((size(SIGNS, wide), depth(SIGNS, wide)), (5000, 2))


class PlainTest(CallCase):
    def test_brothers_ascend_here_and_beneath(self):
        for tree, expected in [
            (A, A),
            (("f", B, A), ("f", A, B)),
            (("f", ("f", B, A), B), ("f", B, ("f", A, B))),
            (("f", ("f", ("f", B, A), A)), ("f", ("f", A, ("f", A, B)))),
            (("f", B, A, B, A), ("f", A, A, B, B)),
        ]:
            self.assertEqual(plain(SIGNS, tree), expected)

    def test_less_size_comes_first(self):
        self.assertEqual(plain(SIGNS, ("f", ("a", A), B)), ("f", B, ("a", A)))
        self.assertEqual(plain(SIGNS, ("f", ("a", A, A), ("f", B), B)), ("f", B, ("f", B), ("a", A, A)))

    def test_the_same_size_ascends_as_tuples_do(self):
        # Here the first brothers alone, by their sizes, would ascend the other way.
        first = ("f", ("a", ("a", A)))
        second = ("f", B, B, B)
        self.assertEqual(plain(SIGNS, ("f", second, first)), ("f", first, second))
        self.assertEqual(plain(SIGNS, ("f", first, second)), ("f", first, second))

    def test_brothers_are_plain_before_they_are_put_in_order(self):
        # The first one comes later in the order only as long as it is not plain.
        self.assertEqual(plain(SIGNS, ("f", ("f", B, A), ("f", A, ("f",)))), ("f", ("f", A, B), ("f", A, ("f",))))
        self.assertEqual(plain(SIGNS, ("f", ("f", ("f",), A), ("f", A, B))), ("f", ("f", A, B), ("f", A, ("f",))))

    def test_one_plain_tree_for_all_alike(self):
        for places in range(1, 5):
            trees = ordered_trees(["b", "a"], places)
            for tree in trees:
                made = plain(["b", "a"], tree)
                self.assertTrue(alike_by_definition(tree, made))
                self.assertEqual(plain(["b", "a"], made), made)

    def test_large(self):
        turned = ("f",) + tuple(("f", *[B] * times, *[A] * (48 - times)) for times in range(48, -1, -1)) * 2
        made = plain(SIGNS, turned)
        self.assertEqual(made, ("f",) + tuple(("f", *[A] * (48 - times), *[B] * times) for times in range(49)
                                              for _ in range(2)))

    def test_large_and_deep(self):
        tree = ("f", *[chain(40, "b"), chain(40, "a")] * 62)
        self.assertEqual(plain(SIGNS, tree), ("f", *[chain(40, "a")] * 62, *[chain(40, "b")] * 62))


class PartsTest(CallCase):
    def test_parts(self):
        self.assertEqual(parts(SIGNS, A), [A])
        self.assertEqual(parts(SIGNS, ("a", A)), [A, ("a", A)])
        self.assertEqual(parts(SIGNS, ("f", ("f", A), B)), [A, B, ("f", A), ("f", B, ("f", A))])

    def test_the_same_tree_several_times(self):
        tree = ("f", ("f", B, A), A, ("f", A, B), ("b", ("f", B, A)))
        ab = ("f", A, B)
        self.assertEqual(parts(SIGNS, tree), [A, B, ab, ("b", ab), ("f", A, ab, ab, ("b", ab))])

    def test_order(self):
        first, second = ("f", ("a", ("a", A))), ("f", B, B, B)
        self.assertEqual(parts(SIGNS, ("b", second, first)),
                         [A, B, ("a", A), ("a", ("a", A)), first, second, ("b", first, second)])

    def test_large(self):
        tree = ("f", *[chain(40, "b"), chain(40, "a")] * 62)
        found = parts(SIGNS, tree)
        self.assertEqual(found[:4], [A, B, ("f", A), ("f", B)])
        self.assertEqual(len(found), 81)
        self.assertEqual(found[80], plain(SIGNS, tree))


class AlikeTest(CallCase):
    def test_alike(self):
        for one, other in [
            (A, A), (("f", A, B), ("f", B, A)), (("f", ("f", A, B), A), ("f", A, ("f", B, A))),
            (("f", A, A, B), ("f", A, B, A)), (("f", ("f", ("f", A, B))), ("f", ("f", ("f", B, A)))),
        ]:
            self.assertIs(alike(SIGNS, one, other), True)
            self.assertIs(alike(SIGNS, other, one), True)

    def test_not_alike(self):
        for one, other in [
            (A, B), (("f", A, A), ("f", A)), (("f", A, A, B), ("f", A, B, B)), (("f", ("f", A)), ("f", A)),
            (("f", ("f", A), B), ("f", ("f", B), A)), (("a", A), ("b", A)), (("f", ("f",), A), ("f", ("f", A))),
        ]:
            self.assertIs(alike(SIGNS, one, other), False)
            self.assertIs(alike(SIGNS, other, one), False)

    def test_as_defined(self):
        trees = ordered_trees(["a", "b"], 3) + ordered_trees(["a", "b"], 4)
        for one in trees:
            for other in trees:
                self.assertEqual(alike(["a", "b"], one, other), alike_by_definition(one, other))


class InvalidTreesTest(CallCase):
    CALLS = [
        plain, size, depth, parts, lambda signs, tree: alike(signs, tree, A),
        lambda signs, tree: alike(signs, A, tree),
    ]

    def test_invalid_signs(self):
        for call in self.CALLS:
            self.assert_each_raises(InvalidSigns, lambda signs: call(signs, A), NO_SIGNS + odd_objects())

    def test_invalid_tree(self):
        for call in self.CALLS:
            self.assert_each_raises(InvalidTree, lambda tree: call(SIGNS, tree), NO_TREES + odd_objects())
        self.assert_each_raises(InvalidTree, lambda tree: alike(SIGNS, tree, tree), NO_TREES)

    def test_invalid_signs_come_first(self):
        for call in self.CALLS:
            self.assert_each_raises(InvalidSigns, lambda signs: call(signs, ("z",)), NO_SIGNS)
            self.assert_raises_exactly(InvalidSigns, call, None, None)

    def test_any_object_deep_within(self):
        for call in self.CALLS:
            self.assert_each_raises(InvalidTree, lambda thing: call(SIGNS, ("f", A, ("f", thing))), odd_objects())
        self.assert_raises_exactly(InvalidTree, plain, SIGNS, nested(59, lambda thing: ("a", thing)))


class TreesOfSizeTest(CallCase):
    def test_size_one(self):
        self.assertEqual(trees_of_size(["b", "a"], 1), [A, B])
        self.assertEqual(trees_of_size(["a"], 1), [A])

    def test_small(self):
        self.assertEqual(trees_of_size(["b", "a"], 2), [("a", A), ("a", B), ("b", A), ("b", B)])
        self.assertEqual(trees_of_size(["a"], 3), [("a", A, A), ("a", ("a", A))])
        self.assertEqual(len(trees_of_size(["h", "a", "b", "c", "d", "e", "f", "g"], 3)), 800)

    def test_numbers_of_trees(self):
        self.assertEqual([len(trees_of_size(["k"], places)) for places in range(1, 11)],
                         [1, 1, 2, 4, 9, 20, 48, 115, 286, 719])
        self.assertEqual([len(trees_of_size(["k", "a"], places)) for places in range(1, 7)],
                         [2, 4, 14, 52, 214, 916])

    def test_just_a_thousand_at_most(self):
        # 916 and 1485 are the numbers nearest to a thousand that signs and a size can give.
        self.assertEqual(len(trees_of_size(["a", "b"], 6)), 916)
        self.assert_raises_exactly(TooMany, trees_of_size, ["a", "b", "c"], 5)

    def test_as_defined(self):
        for signs, most in ((["b", "a"], 4), (["a"], 7)):
            for places in range(1, most + 1):
                found = trees_of_size(signs, places)
                self.assertEqual(found, sorted({plain(signs, tree) for tree in ordered_trees(signs, places)}))

    def test_signs_in_any_order(self):
        self.assertEqual(trees_of_size(["f", "b", "a"], 4), trees_of_size(["a", "b", "f"], 4))
        self.assertEqual(trees_of_size(["f", "b", "a"], 4), sorted(trees_of_size(["f", "b", "a"], 4)))

    def test_too_many(self):
        for signs, places in [(["a"], 11), (["a"], 12), (["a", "b"], 7), (["a", "b"], 12), (SIGNS, 5),
                              (list("abcdefgh"), 4), (list("abcdefgh"), 12)]:
            self.assert_raises_exactly(TooMany, trees_of_size, signs, places)

    def test_answers_near_a_thousand(self):
        for signs, places, many in [(list("abcd"), 4, 752), (list("hgfedcba"), 3, 800), (["a"], 10, 719),
                                    (["b", "a"], 6, 916)]:
            found = trees_of_size(signs, places)
            self.assertEqual(len(found), many)
            self.assertEqual(len(set(found)), many)
            self.assertEqual(found, sorted(found))
            for tree in found:
                self.assertEqual((size(signs, tree), plain(signs, tree)), (places, tree))
        self.assert_raises_exactly(TooMany, trees_of_size, ["b", "a"], 7)

    def test_too_many_are_told_soon(self):
        calls = [(["b", "a"], 7), (list("abcdefgh"), 12), (["a", "b"], 12), (["a"], 11), (["a"], 12)]
        begun = time.perf_counter()
        for _ in range(20):
            trees_of_size(["b", "a"], 6)
        made = time.perf_counter() - begun
        begun = time.perf_counter()
        for signs, places in calls * 20:
            self.assert_raises_exactly(TooMany, trees_of_size, signs, places)
        told = time.perf_counter() - begun
        # A hundred such calls take less than twenty that return 916 trees: nothing is made for them.
        self.assertLess(told, made + 0.05)
        self.assertLess(told, 1)

    def test_invalid_number(self):
        self.assert_each_raises(InvalidNumber, lambda places: trees_of_size(SIGNS, places), [
            0, 13, -1, 10 ** 39, True, False, None, "1", "", [1], (1,), {1: 1},
        ])
        self.assert_each_raises(InvalidNumber, lambda places: trees_of_size(["a"], places),
                                [thing for thing in odd_objects() if repr(thing) != "1"])

    def test_invalid_signs(self):
        self.assert_each_raises(InvalidSigns, lambda signs: trees_of_size(signs, 1), NO_SIGNS + odd_objects())
        self.assert_each_raises(InvalidSigns, lambda signs: trees_of_size(signs, 13), NO_SIGNS)


if __name__ == "__main__":
    unittest.main()
