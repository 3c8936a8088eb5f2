"""Promise 23: nets."""

import random
import time
import unittest

from broodcounts.books import Book
from broodcounts.errors import InvalidBook, InvalidNet, InvalidSigns, InvalidTree, TooMany
from broodcounts.nets import is_net, net_lots, net_of, net_sizes, same_nodes, tree_of
from broodcounts.trees import alike, depth, parts, plain, size
from broodcounts.wishes import lot_of
from tests import naive
from tests.support import A, B, BOOK, MANY_SIGNS, RULES, SIGNS, TWO_SIGNS, CallCase, nested, odd_objects, snapshot

MOST = 10 ** 30
LEAF, PAIR = ("a", ()), ("f", ((0, 2),))
NO_NETS = [
    [], (), (LEAF,), LEAF, None, True, 0, "a", {}, {0: LEAF}, [None], [()], [("a",)], [("a", (), ())], [["a", ()]],
    [("z", ())], [("A", ())], [("", ())], [(None, ())], [(["a"], ())], [(("a",), ())], [((), "a")], [("a", [])],
    [("a", None)], [("a", {})], [("a", "")], [("a", ((0, 1),))], [LEAF, ("f", ((1, 1),))], [LEAF, ("f", ((2, 1),))],
    [LEAF, ("f", ((-1, 1),))], [LEAF, LEAF, ("f", ((-2, 1),))], [LEAF, LEAF, ("f", ((True, 1),))],
    [LEAF, ("f", ((False, 1),))], [LEAF, ("f", ((None, 1),))], [LEAF, ("f", (("0", 1),))], [LEAF, ("f", (((0,), 1),))],
    [LEAF, ("f", ((0, 0),))], [LEAF, ("f", ((0, -1),))], [LEAF, ("f", ((0, True),))], [LEAF, ("f", ((0, False),))],
    [LEAF, ("f", ((0, MOST + 1),))], [LEAF, ("f", ((0, 10 ** 39),))], [LEAF, ("f", ((0, None),))], [LEAF, ("f", ((0, "1"),))],
    [LEAF, ("f", ((0,),))], [LEAF, ("f", ((0, 1, 1),))], [LEAF, ("f", ([0, 1],))], [LEAF, ("f", [(0, 1)])],
    [LEAF, ("f", (0, 1))], [LEAF, ("f", ((0, 1), (0, 1)))], [LEAF, LEAF, ("f", ((1, 1), (0, 1)))],
    [LEAF, LEAF, LEAF, ("f", ((0, 1), (2, 1), (1, 1)))], [LEAF, LEAF, ("f", ((0, 1), (0, 2), (1, 1)))],
    [LEAF, PAIR, None], [LEAF, PAIR, ("z", ())], [("z", ()), LEAF], [LEAF, ("f", ((0, 1), None))], [LEAF, [LEAF]],
    [LEAF, ("f", ((0, 1), (1, 1)))], [LEAF] * 201, [LEAF] * 5000, [BOOK], BOOK, [("f", BOOK)], [LEAF, ("f", (BOOK,))],
]
NETS = [
    [LEAF], [("f", ())], [LEAF, PAIR], [LEAF, LEAF], [LEAF, ("f", ((0, MOST),))], [LEAF, ("a", ((0, 1),))],
    [LEAF, ("b", ()), ("f", ((0, 1), (1, 3)))], [LEAF, PAIR, ("f", ((0, 1), (1, MOST)))], [LEAF, ("b", ()), ("f", ((1, 1),))],
    [LEAF] * 200, [("a", ((at - 1, 1),) if at else ()) for at in range(200)],
]


def tower(levels, times):
    """A net each of whose nodes has the one before so many times."""
    return [("f", ((at - 1, times),) if at else ()) for at in range(levels)]


def grown(net, index):
    """The tree of a node of a net with small numbers, not plain."""
    sign, brothers = net[index]
    return (sign, *[tree for number, times in brothers for tree in [grown(net, number)] * times])


def random_net(source, signs, nodes, most):
    net = []
    for at in range(nodes):
        there = sorted(source.sample(range(at), source.randint(0, min(at, 3))))
        net.append((source.choice(signs), tuple((number, source.randint(1, most)) for number in there)))
    return net


class IsNetTest(CallCase):
    def test_nets(self):
        self.assert_each_true(lambda thing: is_net(SIGNS, thing), NETS)
        self.assertIs(is_net(["ab", "c"], [("c", ()), ("ab", ((0, 7),))]), True)

    def test_no_nets(self):
        self.assert_each_false(lambda thing: is_net(SIGNS, thing), NO_NETS)
        self.assert_each_false(lambda thing: is_net(SIGNS, thing), odd_objects())
        self.assert_each_false(lambda thing: is_net(SIGNS, [LEAF, thing]), odd_objects())
        self.assert_each_false(lambda thing: is_net(["b"], thing), [net for net in NETS if net[0][0] != "b"])

    def test_signs(self):
        self.assert_each_raises(InvalidSigns, lambda signs: is_net(signs, [LEAF]), [[], None, ("a",), ["a", "a"], "a"])

    def test_errors(self):
        for call in (net_sizes, same_nodes, tree_of):
            self.assert_each_raises(InvalidNet, lambda net: call(SIGNS, net), NO_NETS + odd_objects())
            self.assert_each_raises(InvalidSigns, lambda signs: call(signs, None), [[], None, ("a",), ["A"], BOOK])
        self.assert_each_raises(InvalidNet, lambda net: net_lots(BOOK, net), NO_NETS + odd_objects())
        self.assert_each_raises(InvalidBook, lambda book: net_lots(book, None), [None, SIGNS, RULES, [BOOK]])
        self.assert_raises_exactly(InvalidNet, net_lots, Book(["b"], []), [LEAF])


class SizesTest(CallCase):
    def test_small_ones(self):
        self.assertEqual(net_sizes(SIGNS, [LEAF]), [1])
        self.assertEqual(net_sizes(SIGNS, [LEAF, PAIR, ("f", ((0, 1), (1, 3))), LEAF]), [1, 3, 11, 1])

    def test_towers_of_great_numbers(self):
        sizes = net_sizes(SIGNS, tower(200, MOST))
        self.assertEqual(sizes[:3], [1, 1 + MOST, 1 + MOST + MOST ** 2])
        self.assertEqual(sizes[199], sum(MOST ** level for level in range(200)))

    def test_random_ones(self):
        source = random.Random(231)
        for _ in range(200):
            net = random_net(source, SIGNS, 6, 2)
            self.assertEqual(net_sizes(SIGNS, net), [size(SIGNS, grown(net, at)) for at in range(6)])


class SameNodesTest(CallCase):
    def test_small_ones(self):
        for net, expected in [
            ([LEAF], [0]), ([LEAF, LEAF, ("b", ()), LEAF], [0, 0, 2, 0]),
            ([LEAF, LEAF, ("f", ((0, 1), (1, 1))), ("f", ((1, 2),)), PAIR, ("f", ((0, 1),))], [0, 0, 2, 2, 2, 5]),
            ([LEAF, PAIR, LEAF, ("f", ((2, 2),)), ("f", ((1, 1), (3, 1))), ("f", ((3, 2),)), ("f", ((1, 3),))],
             [0, 1, 0, 1, 4, 4, 6]),
            ([LEAF, ("a", ((0, 1),)), ("b", ((0, 1),))], [0, 1, 2]),
            ([("b", ()), LEAF, ("b", ()), ("f", ((0, 1), (1, 1))), ("f", ((1, 1), (2, 1)))], [0, 1, 0, 3, 3]),
        ]:
            self.assertEqual(same_nodes(SIGNS, net), expected)

    def test_times_that_add_up_beyond_the_most(self):
        net = [LEAF, LEAF, LEAF, ("f", ((0, MOST), (1, MOST))), ("f", ((0, 1), (1, MOST), (2, MOST - 1))),
               ("f", ((0, MOST),)), ("f", ((1, MOST - 1), (2, 1)))]
        self.assertEqual(same_nodes(SIGNS, net), [0, 0, 0, 3, 3, 5, 5])
        self.assertEqual(net_sizes(SIGNS, net)[3:5], [2 * MOST + 1] * 2)

    def test_the_same_tower_twice(self):
        net = tower(100, MOST) + [("f", ((99 + at, MOST),) if at else ()) for at in range(100)]
        self.assertEqual(same_nodes(SIGNS, net), [*range(100), *range(100)])

    def test_random_ones(self):
        source = random.Random(232)
        for _ in range(300):
            net = random_net(source, ["a", "f"], 7, 2)
            trees = [plain(SIGNS, grown(net, at)) for at in range(7)]
            self.assertEqual(same_nodes(SIGNS, net), [trees.index(tree) for tree in trees])


class LotsTest(CallCase):
    def test_remainders_far_beyond_the_cap(self):
        book = Book(["a", "b"], [("x", "a", ()), ("two", "b", (("x", 0, None, 2, 1),)), ("three", "b", (("x", 5, None, 3, 2),)),
                                 ("few", "b", (("x", 0, 5, 1, 0),))])
        for times in [1, 2, 3, 5, 6, 7, 8, 9, 10, 11, 100, MOST - 2, MOST - 1, MOST]:
            expected = ["few"] * (times <= 5) + ["three"] * (times >= 5 and times % 3 == 2) + ["two"] * (times % 2)
            self.assertEqual(net_lots(book, [LEAF, ("b", ((0, times),))]), [("x",), tuple(expected)], times)

    def test_sums_of_several_nodes_of_one_kind(self):
        book = Book(["a", "b"], [("x", "a", ()), ("y", "b", (("x", 0, None, 3, 1), (None, 0, None, 2, 0)))])
        for one, other in [(1, 2), (MOST, MOST), (MOST, MOST - 1), (MOST - 1, MOST - 2), (2, MOST), (3, 4), (5, 5)]:
            total = one + other
            expected = ("y",) if total % 3 == 1 and total % 2 == 0 else ()
            self.assertEqual(net_lots(book, [LEAF, LEAF, ("b", ((0, one), (1, other)))]), [("x",), ("x",), expected])

    def test_towers(self):
        self.assertEqual(net_lots(BOOK, tower(4, 2)), [("even",), (), ("even",), ()])
        self.assertEqual(net_lots(BOOK, tower(200, MOST))[-2:], [("even",), ()])
        self.assertEqual(net_lots(BOOK, tower(200, 1)), [("even",)] * 200)

    def test_random_ones(self):
        source = random.Random(233)
        for book in naive.random_books(233, 100) + [MANY_SIGNS, TWO_SIGNS]:
            net = random_net(source, book.signs, 6, 3)
            trees = [grown(net, at) for at in range(6)]
            self.assertEqual(net_lots(book, net), [lot_of(book, tree) for tree in trees])

    def test_more_by_twelve_is_the_same(self):
        source = random.Random(234)
        for book in naive.random_books(235, 60):
            net = random_net(source, book.signs, 8, 9)
            more = [(sign, tuple((number, times + 6 * source.randint(10, 10 ** 28)) for number, times in row))
                    for sign, row in net]
            there = [(sign, tuple((number, times + 60) for number, times in row)) for sign, row in net]
            self.assertEqual(net_lots(book, more), net_lots(book, there))


class NetOfTest(CallCase):
    def test_small_ones(self):
        self.assertEqual(net_of(SIGNS, A), [LEAF])
        self.assertEqual(net_of(SIGNS, ("f", ("f", B), A, ("f", B), B)),
                         [("a", ()), ("b", ()), ("f", ((1, 1),)), ("f", ((0, 1), (1, 1), (2, 2)))])

    def test_there_and_back(self):
        source = random.Random(236)
        for _ in range(500):
            signs = list("abf"[:source.randint(1, 3)])
            tree = naive.random_tree(source, signs, source.randint(1, 14))
            net = net_of(signs, tree)
            self.assertIs(is_net(signs, net), True)
            self.assertEqual(tree_of(signs, net), plain(signs, tree))
            self.assertEqual(same_nodes(signs, net), list(range(len(net))))
            self.assertEqual(net_sizes(signs, net), [size(signs, part) for part in parts(signs, tree)])
            self.assertEqual([tree_of(signs, net[:at + 1]) for at in range(len(net))], parts(signs, tree))
            self.assertEqual(net_of(signs, plain(signs, tree)), net)

    def test_trees_of_one_size_ascend_as_tuples_do(self):
        # The brothers within come in the order of tuples where the sizes are the same, whatever their own sizes are.
        chain, wide = ("f", ("b", ("a", A))), ("f", A, ("b", B))
        tree = ("f", wide, chain, ("a", ("f", chain)), ("a", ("f", wide)))
        self.assertEqual([tree_of(SIGNS, net_of(SIGNS, tree)[:at + 1]) for at in range(len(parts(SIGNS, tree)))],
                         parts(SIGNS, tree))

    def test_two_hundred_parts_and_one_more(self):
        for many, parts_there in [(198, 200), (199, 201)]:
            tree = ("b", *[("f", *[A] * times) for times in range(1, many + 1)])
            if many == 198:
                net = net_of(SIGNS, tree)
                self.assertEqual((len(net), net[-1]), (200, ("b", tuple((at, 1) for at in range(1, 199)))))
            else:
                self.assert_raises_exactly(InvalidTree, net_of, SIGNS, tree)
            deep = nested(parts_there, lambda part: ("f", part) if part else A)
            if parts_there == 200:
                self.assertEqual(net_of(SIGNS, deep), [LEAF] + [("f", ((at, 1),)) for at in range(199)])
            else:
                self.assert_raises_exactly(InvalidTree, net_of, SIGNS, deep)

    def test_errors(self):
        self.assert_each_raises(InvalidTree, lambda tree: net_of(SIGNS, tree),
                                [None, (), ("z",), ("f", None), ("f", ("z",)), [A], ["f"], "f", ("f", "a"), BOOK])
        self.assert_each_raises(InvalidSigns, lambda signs: net_of(signs, None), [None, [], ["a", "a"], ("a",)])


class TreeOfTest(CallCase):
    def test_plain_trees(self):
        net = [("b", ()), LEAF, ("f", ((0, 1),)), ("f", ((0, 2), (1, 1), (2, 1)))]
        self.assertEqual(tree_of(SIGNS, net), ("f", A, B, B, ("f", B)))
        self.assertEqual(tree_of(SIGNS, net[:1]), B)

    def test_random_ones(self):
        source = random.Random(237)
        for _ in range(200):
            net = random_net(source, SIGNS, 6, 2)
            tree = grown(net, 5)
            if size(SIGNS, tree) <= 300:
                self.assertEqual(tree_of(SIGNS, net), plain(SIGNS, tree))
                self.assertIs(alike(SIGNS, tree_of(SIGNS, net), tree), True)

    def test_three_hundred_places_and_one_more(self):
        self.assertEqual(size(SIGNS, tree_of(SIGNS, [LEAF, ("f", ((0, 299),))])), 300)
        self.assert_raises_exactly(TooMany, tree_of, SIGNS, [LEAF, ("f", ((0, 300),))])
        net = [LEAF, ("f", ((0, 12),)), ("f", ((0, 0 + 1), (1, 22)))]
        self.assertEqual(net_sizes(SIGNS, net)[2], 288)
        self.assertEqual(size(SIGNS, tree_of(SIGNS, net)), 288)
        self.assert_raises_exactly(TooMany, tree_of, SIGNS, [*net[:2], ("f", ((1, 23),)), ("a", ((2, 1),))])

    def test_forty_deep_and_one_more(self):
        tree = tree_of(SIGNS, tower(40, 1))
        self.assertEqual((depth(SIGNS, tree), size(SIGNS, tree)), (40, 40))
        self.assert_raises_exactly(TooMany, tree_of, SIGNS, tower(41, 1))
        self.assert_raises_exactly(TooMany, tree_of, SIGNS, tower(41, 1) + [("a", ((0, 1), (40, 1)))])
        self.assertEqual(tree_of(SIGNS, tower(41, 1) + [("a", ((0, 1),))]), ("a", ("f",)))

    def test_great_nets_are_soon_told(self):
        for net in (tower(200, MOST), tower(200, 2), tower(200, 1)):
            begun = time.perf_counter()
            self.assert_raises_exactly(TooMany, tree_of, SIGNS, net)
            self.assertLess(time.perf_counter() - begun, 0.5)

    def test_other_nodes_may_be_too_great(self):
        net = tower(198, MOST) + [LEAF, ("f", ((0, 2), (198, 1)))]
        self.assertEqual(tree_of(SIGNS, net), ("f", A, ("f",), ("f",)))


class BothTest(CallCase):
    def test_what_is_told_may_be_changed_and_nothing_changes(self):
        for net in NETS:
            before = snapshot(net)
            for call, first in [(net_sizes, SIGNS), (same_nodes, SIGNS), (net_lots, BOOK)]:
                told = call(first, net)
                expected = list(told)
                told.append(None)
                told[0] = None
                self.assertEqual(call(first, net), expected)
            self.assertEqual(snapshot(net), before)
        told = net_of(SIGNS, ("f", A, B))
        told.clear()
        self.assertEqual(len(net_of(SIGNS, ("f", A, B))), 3)

    def test_a_changed_net_is_told_anew(self):
        net = [LEAF, PAIR]
        self.assertEqual(net_sizes(SIGNS, net), [1, 3])
        net.append(("f", ((1, 2),)))
        self.assertEqual((net_sizes(SIGNS, net), same_nodes(SIGNS, net)), ([1, 3, 7], [0, 1, 2]))

    def test_at_the_bounds(self):
        source = random.Random(238)
        net = [("a", ())] + [(source.choice("ab"), tuple((at, MOST - at) for at in range(node))) for node in range(1, 200)]
        begun = time.perf_counter()
        self.assertIs(is_net(["a", "b"], net), True)
        net_sizes(["a", "b"], net)
        same_nodes(["a", "b"], net)
        net_lots(TWO_SIGNS, net)
        self.assert_raises_exactly(TooMany, tree_of, ["a", "b"], net)
        self.assertLess(time.perf_counter() - begun, 2)
        wide = ("f", *[("f", *[A] * times) for times in range(1, 96)])
        for tree in (("f", *[A] * 4999), wide, ("f", *[nested(39, lambda part: ("f", part) if part else A)] * 128)):
            begun = time.perf_counter()
            net_of(SIGNS, tree)
            self.assertLess(time.perf_counter() - begun, 1)


if __name__ == "__main__":
    unittest.main()
