"""Nets: trees told by nodes that share brothers, as many of each as 10 ** 30."""

from broodcounts.basics import is_number, lot_above, named
from broodcounts.errors import InvalidNet, InvalidTree, TooMany
from broodcounts.trees import check_signs, check_tree, made_plain
from broodcounts.wishes import ascends, check_book

MOST_NODES = 200
MOST_TIMES = 10 ** 30
GREATEST_SIZE = 300
GREATEST_DEPTH = 40


def is_net(signs, thing):
    """Return whether an object is a net of signs."""
    check_signs(signs)
    return _is_net_of(signs, thing)


def _is_net_of(signs, thing):
    """Return whether an object is a net of what surely are signs."""
    if not isinstance(thing, list) or not 1 <= len(thing) <= MOST_NODES:
        return False
    return all([_is_node(signs, node, index) for index, node in enumerate(thing)])


def _is_node(signs, node, index):
    """Return whether an object is the node with an index."""
    if not isinstance(node, tuple) or len(node) != 2:
        return False
    sign, brothers = node
    if sign not in signs or not isinstance(brothers, tuple):
        return False
    return all([_is_share(share, index) for share in brothers]) and ascends([number for number, _ in brothers])


def _is_share(share, index):
    """Return whether an object is the number of a node before an index, and how often its tree stands there."""
    if not isinstance(share, tuple) or len(share) != 2:
        return False
    return is_number(share[0], 0, index - 1) and is_number(share[1], 1, MOST_TIMES)


def _check_net(signs, net):
    """Raise InvalidNet unless an object is a net of what surely are signs."""
    if not _is_net_of(signs, net):
        raise InvalidNet("the net is no net of the signs")


def net_sizes(signs, net):
    """Return the list of the sizes of the trees of the nodes."""
    check_signs(signs)
    _check_net(signs, net)
    return _sizes(net)


def _sizes(net):
    """Return the list of the sizes of the trees of the nodes."""
    sizes = []
    for _, brothers in net:
        sizes.append(1 + sum([times * sizes[number] for number, times in brothers]))
    return sizes


def _depths(net):
    """Return the list of the depths of the trees of the nodes."""
    depths = []
    for _, brothers in net:
        depths.append(1 + max([depths[number] for number, _ in brothers], default=0))
    return depths


def same_nodes(signs, net):
    """Return the list that has for each node the first one whose tree is alike."""
    check_signs(signs)
    _check_net(signs, net)
    first = {}
    heads = []
    for index, (sign, brothers) in enumerate(net):
        totals = {}
        # Different nodes may stand for alike brothers, whose times add up.
        for number, times in brothers:
            totals[heads[number]] = totals.get(heads[number], 0) + times
        heads.append(first.setdefault((sign, *sorted(totals.items())), index))
    return heads


def net_lots(book, net):
    """Return the list of the lots of the trees of the nodes."""
    check_book(book)
    _check_net(book.signs, net)
    machine = book.machine
    lots = []
    for sign, brothers in net:
        lots.append(lot_above(machine, sign, [(lots[number], times) for number, times in brothers]))
    return [named(machine, lot) for lot in lots]


def net_of(signs, tree):
    """Return the net of the parts of a tree, ascending, each once."""
    check_tree(signs, tree)
    nodes = _numbered_parts(tree)
    if len(nodes) > MOST_NODES:
        raise InvalidTree("the tree has more than two hundred parts")
    order = _ascending(nodes)
    places = {number: place for place, number in enumerate(order)}
    found = [nodes[number] for number in order]
    return [(sign, tuple(sorted([(places[number], times) for number, times in row]))) for sign, row in found]


def _numbered_parts(tree):
    """Return the different parts of a tree as the nodes of a net, in any order, but behind their brothers."""
    numbers = {}
    closed = []
    # Trees of nets may be deep, so nothing calls itself here.
    waiting = [(tree, False)]
    while waiting:
        part, is_open = waiting.pop()
        if not is_open:
            waiting.append((part, True))
            waiting.extend([(brother, False) for brother in part[1:]])
            continue
        first = len(closed) - (len(part) - 1)
        times = {}
        for number in closed[first:]:
            times[number] = times.get(number, 0) + 1
        del closed[first:]
        closed.append(numbers.setdefault((part[0], tuple(sorted(times.items()))), len(numbers)))
    return list(numbers)


def _ascending(nodes):
    """Return the numbers of nodes that stand for unlike trees in the order of their plain trees."""
    sizes = _sizes(nodes)
    # Where a plain tree comes in the order in which Python sorts tuples, among those that are no greater.
    ranks = {}
    for size in sorted(set(sizes)):
        there = [number for number in range(len(nodes)) if sizes[number] <= size]
        rows = sorted([(_tuple_key(nodes[number], sizes, ranks), number) for number in there])
        ranks = {number: rank for rank, (_, number) in enumerate(rows)}
    return [number for _, _, number in sorted([(sizes[number], rank, number) for number, rank in ranks.items()])]


def _tuple_key(node, sizes, ranks):
    """Return what sorts as the plain tree of a node does, if the ranks of its brothers are right."""
    sign, row = node
    brothers = sorted([(sizes[number], ranks[number], times) for number, times in row])
    return (sign, *[rank for _, rank, times in brothers for _ in range(times)])


def tree_of(signs, net):
    """Return the plain tree of the last node."""
    check_signs(signs)
    _check_net(signs, net)
    if _sizes(net)[-1] > GREATEST_SIZE or _depths(net)[-1] > GREATEST_DEPTH:
        raise TooMany("the tree of the last node has too many places or is too deep")
    return made_plain(_tree_at(net, len(net) - 1))


def _tree_at(net, index):
    """Return the tree of a node, which is small."""
    sign, brothers = net[index]
    return (sign, *[tree for number, times in brothers for tree in [_tree_at(net, number)] * times])
