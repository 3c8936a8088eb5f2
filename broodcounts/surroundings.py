"""Frames, surroundings that part trees, and trees that none parts."""

from heapq import heappop, heappush

from broodcounts.basics import lot_in, named
from broodcounts.errors import InvalidFrame, InvalidTree
from broodcounts.made import least_brothers
from broodcounts.trees import check_signs, is_grown
from broodcounts.wishes import check_asked, check_tree_of, meets, wished_lots


def holes_in(signs, thing):
    """Return in how many places of a frame or a tree None stands, -1 for an object that is neither."""
    holes = 0
    waiting = [thing]
    while waiting:
        part = waiting.pop()
        if part is None:
            holes += 1
        elif isinstance(part, tuple) and len(part) > 0 and part[0] in signs:
            waiting.extend(part[1:])
        else:
            return -1
    return holes


def is_frame(signs, thing):
    """Return whether an object is a frame."""
    check_signs(signs)
    return holes_in(signs, thing) > 0


def filled(signs, frame, tree):
    """Return the tree that a frame is when it is filled with a tree, brothers in the order in which they stand."""
    if not is_frame(signs, frame):
        raise InvalidFrame("the frame is no frame of the signs")
    if not is_grown(signs, tree):
        raise InvalidTree("the tree is no tree of the signs")
    return _put_in(frame, tree)


def _put_in(frame, tree):
    """Return a frame, or a tree that stands in one, with a tree in each place of None."""
    if frame is None:
        return tree
    return (frame[0], *[_put_in(part, tree) for part in frame[1:]])


def changes(closure):
    """Return the ways in which a sign and further brothers change lots, each with its (brood, index of the sign).

    A way is a tuple that has for each lot the lot of a tree with this sign above
    a tree of that lot and the further brothers. The brood is that of the least
    further brothers, and the ways ascend by their weights.
    """
    seen = {}
    found = {}
    for brood, row in enumerate(closure.moves):
        above = tuple([closure.answers[grown] for grown in row])
        if above not in seen:
            seen[above] = True
            for at in range(len(closure.heads)):
                found.setdefault(tuple([answer[at] for answer in above]), (brood, at))
    return found


def frame_along(closure, path):
    """Return the surrounding that wraps None in the (brood, index of a sign) pairs of a path, the innermost first."""
    frame = None
    for brood, at in path:
        frame = (closure.heads[at], frame, *least_brothers(closure, brood))
    return frame


def _parting_path(closure, wished, one, other):
    """Return the path of a least surrounding that parts trees of two lots, or None."""
    ways = changes(closure)
    queue = [(0, one, other, ())]
    best = {(one, other): 0}
    while queue:
        weight, low, high, path = heappop(queue)
        if wished[low] != wished[high]:
            return path
        for way, (brood, at) in ways.items():
            pair = (way[low], way[high])
            cost = weight + closure.weights[brood] + 1
            if pair[0] != pair[1] and (pair not in best or cost < best[pair]):
                best[pair] = cost
                heappush(queue, (cost, pair[0], pair[1], (*path, (brood, at))))
    return None


def _check_pair(book, wish, one, other):
    """Raise the error that is listed first if one of these is not what it should be."""
    check_asked(book, wish)
    check_tree_of(book, one)
    check_tree_of(book, other)


def _path_between(book, wish, one, other):
    """Return the path of a least surrounding that parts two trees, or None."""
    closure = book.closure
    lots = [closure.members.index(named(book.machine, lot_in(book.machine, tree, ()))) for tree in (one, other)]
    return _parting_path(closure, wished_lots(closure, wish), lots[0], lots[1])


def parter(book, wish, one, other):
    """Return a tuple of a surrounding that parts two trees for a wish, None if there is none."""
    _check_pair(book, wish, one, other)
    path = _path_between(book, wish, one, other)
    return None if path is None else (frame_along(book.closure, path),)


def is_parter(book, wish, one, other, thing):
    """Return whether an object is a surrounding that parts two trees for a wish."""
    _check_pair(book, wish, one, other)
    machine = book.machine
    if holes_in(machine.heads, thing) != 1:
        return False
    lots = [lot_in(machine, thing, lot_in(machine, tree, ())) for tree in (one, other)]
    return meets(named(machine, lots[0]), wish) != meets(named(machine, lots[1]), wish)


def are_kin(book, wish, one, other):
    """Return whether no surrounding parts two trees for a wish."""
    _check_pair(book, wish, one, other)
    return _path_between(book, wish, one, other) is None


def kin_classes(book, wish):
    """Return the ascending list of ascending lists of lots such that trees of lots of the same list are kin."""
    check_asked(book, wish)
    closure = book.closure
    numbers = kin_numbers(closure, wished_lots(closure, wish))
    rows = [[lot for lot, number in zip(closure.members, numbers) if number == each] for each in sorted(set(numbers))]
    return sorted([sorted(row) for row in rows])


def kin_numbers(closure, wished):
    """Return a number for each lot: the same one just if no surrounding parts trees of them."""
    ways = list(changes(closure))
    numbers = [1 if each else 0 for each in wished]
    many = len(set(numbers))
    while True:
        # Lots part if they parted before, or if one more level around leads them to lots that did.
        keys = [(numbers[lot], *[numbers[way[lot]] for way in ways]) for lot in range(len(numbers))]
        different = sorted(set(keys))
        numbers = [different.index(key) for key in keys]
        if len(different) == many:
            return numbers
        many = len(different)
