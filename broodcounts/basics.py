"""What the whole package rests on: names, integers, rules put into numbers, and the closed lots and broods."""

from heapq import heappop, heappush
from math import lcm

LONGEST_NAME = 8


def is_name(thing):
    """Return whether an object is a name."""
    if not isinstance(thing, str) or not 1 <= len(thing) <= LONGEST_NAME:
        return False
    return all(["a" <= letter <= "z" for letter in thing])


def is_number(thing, low, high):
    """Return whether an object is an integer from low to high (None: from low on)."""
    # True and False are ints for Python, but no integers for the document.
    if not isinstance(thing, int) or isinstance(thing, bool):
        return False
    return low <= thing and (high is None or thing <= high)


def fits(ask, number):
    """Return whether a number fits an ask."""
    _, low, high, step, rest = ask
    return low <= number and (high is None or number <= high) and number % step == rest


class Machine:
    """Rules put into numbers.

    A kind is its index in ``names``, a lot an ascending tuple of such indexes.
    A number of brothers is told by its state: the least number that has the
    same part in a brood. A brood is a tuple of the states of all kinds and, at
    the end, of all brothers. A set of rules is an integer, a bit for each.
    """

    def __init__(self, signs, kinds, rules):
        asks = [ask for _, _, row in rules for ask in row]
        self.heads = list(signs)
        self.names = list(kinds)
        self.cap = 1 + max([bound for ask in asks for bound in ask[1:3] if bound is not None], default=0)
        self.step = _common_step(asks)
        self.states = self.cap + self.step
        self.fitted = _fitted_rules(rules, self.names + [None], self.states)
        self.made = {sign: _made_kinds(rules, sign, self.names) for sign in self.heads}


def _common_step(asks):
    """Return the least number that all steps of asks divide."""
    step = 1
    for ask in asks:
        step = lcm(step, ask[3])
    return step


def _fitted_rules(rules, kinds, states):
    """Return for each kind the list that has for each state the rules all of whose asks of the kind it fits."""
    asked = {kind: [] for kind in kinds}
    for index, (_, _, asks) in enumerate(rules):
        for ask in asks:
            asked[ask[0]].append((1 << index, ask))
    return [[~_unfit_rules(asked[kind], state) for state in range(states)] for kind in kinds]


def _unfit_rules(asked, state):
    """Return the rules that have one of these asks which a state does not fit."""
    rules = 0
    for rule, ask in asked:
        if not fits(ask, state):
            rules = rules | rule
    return rules


def _made_kinds(rules, sign, kinds):
    """Return the pairs of a kind that rules with a sign make, and of these rules, by ascending kinds."""
    places = {kind: place for place, kind in enumerate(kinds)}
    made = {}
    for index, (kind, told, _) in enumerate(rules):
        if told == sign:
            made[places[kind]] = made.get(places[kind], 0) | (1 << index)
    return sorted(made.items())


def state_of(machine, number):
    """Return the state of a number."""
    return number if number < machine.states else machine.cap + (number - machine.cap) % machine.step


def rules_held(machine, brood):
    """Return the rules all of whose asks hold above a brood, whatever their signs are."""
    rules = -1
    for fitted, state in zip(machine.fitted, brood):
        rules = rules & fitted[state]
    return rules


def lot_made(machine, sign, rules):
    """Return the lot that a sign has where these rules hold."""
    return tuple([kind for kind, makers in machine.made[sign] if rules & makers])


def brood_counted(machine, rows):
    """Return the brood of brothers that are told as pairs of a lot and how many of them have it."""
    numbers = [0] * len(machine.fitted)
    for lot, times in rows:
        numbers[-1] += times
        for kind in lot:
            numbers[kind] += times
    return tuple([state_of(machine, number) for number in numbers])


def lot_above(machine, sign, rows):
    """Return the lot of a tree with a sign and brothers that are told so."""
    return lot_made(machine, sign, rules_held(machine, brood_counted(machine, rows)))


def lot_in(machine, tree, hole):
    """Return the lot of a tree, or of a frame that is filled with a tree of the lot hole."""
    if tree is None:
        return hole
    return lot_above(machine, tree[0], [(lot_in(machine, brother, hole), 1) for brother in tree[1:]])


def brood_beneath(machine, tree, hole):
    """Return the brood of the lots of a tree's brothers, or a frame's, filled likewise."""
    return brood_counted(machine, [(lot_in(machine, brother, hole), 1) for brother in tree[1:]])


def full_loops(machine):
    """Return for each part of the document's broods the pair of the state behind the last one and their number."""
    return [(machine.cap, machine.states)] * len(machine.fitted)


def short_loops(machine):
    """Return such pairs for as few states as tell which rules hold, whatever the cap and the step are."""
    return [_short_loop(fitted, machine.cap) for fitted in machine.fitted]


def ask_loops(machine, asks):
    """Return such pairs for as few states as tell which of these asks, and not only which rules, are fitted."""
    return [_short_loop(_fits_of(asks, kind, machine.states), machine.cap) for kind in machine.names + [None]]


def _fits_of(asks, kind, states):
    """Return for each state whether it fits each of the asks of a kind."""
    asked = [ask for ask in asks if ask[0] == kind]
    return [[fits(ask, state) for ask in asked] for state in range(states)]


def _short_loop(fitted, cap):
    """Return the pair for the fewest states that tell which of these rules (or asks) hold."""
    loop = fitted[cap:]
    step = min([size for size in range(1, len(loop) + 1) if loop == loop[size:] + loop[:size]])
    back = cap
    while back > 0 and fitted[back - 1] == fitted[back - 1 + step]:
        back = back - 1
    return (back, back + step)


def steps_of(loops, lot):
    """Return for each part of a brood the list of the states that one brother of a lot leads to."""
    last = len(loops) - 1
    return [_steps(back, states, at in lot or at == last) for at, (back, states) in enumerate(loops)]


def _steps(back, states, grows):
    """Return for each state the one behind it if a part grows, and else itself."""
    return list(range(1, states)) + [back] if grows else list(range(states))


def stepped(brood, steps):
    """Return the brood that one brother whose steps these are leads to."""
    return tuple([row[state] for row, state in zip(steps, brood)])


def named(machine, lot):
    """Return a lot by the names of its kinds."""
    return tuple([machine.names[kind] for kind in lot])


class Closure:
    """All lots and broods that trees have; the broods are told by the states of some loops.

    ``heads`` are the signs, ``members`` the lots, by the names of their kinds;
    they ascend by the least size of their trees, which ``sizes`` tells.
    ``broods`` ascend by the least number of places in lists of trees that have
    them, which ``weights`` tells. Everywhere else a lot or a brood is its index
    in these lists. ``makers`` tells for each lot the (sign, brood) of a least
    tree, ``sources`` for each brood but the first, empty one the (brood, lot)
    that it grows from in a least list. ``moves[brood][lot]`` is the brood grown
    by a lot, ``answers[brood]`` the tuple of the lots of all signs above it.
    """

    def __init__(self, machine, lots, broods, moves, answers):
        self.heads = list(machine.heads)
        self.members = [named(machine, row[0]) for row in lots]
        self.sizes = [row[1] for row in lots]
        self.makers = [row[2] for row in lots]
        self.broods = [row[0] for row in broods]
        self.weights = [row[1] for row in broods]
        self.sources = [row[2] for row in broods]
        self.moves = moves
        self.answers = answers


def closed(machine, loops):
    """Return the closure of a machine by these loops."""
    start = (0,) * len(loops)
    queue = [(0, start, (0, 0))]
    best = {start: 0}
    lots = []
    places = {}
    broods = []
    indexes = {}
    grown = {}
    answers = []
    while queue:
        weight, brood, source = heappop(queue)
        if brood in indexes:
            continue
        index = len(broods)
        indexes[brood] = index
        broods.append((brood, weight, source))
        grown[index] = []
        rules = rules_held(machine, brood)
        made = [lot_made(machine, sign, rules) for sign in machine.heads]
        before = index
        for sign, lot in zip(machine.heads, made):
            # Broods come by ascending weight: a lot is first met above the brood of a least tree.
            if lot not in places:
                places[lot] = len(lots)
                lots.append((lot, weight + 1, (sign, index), steps_of(loops, lot)))
                before = 0
        answers.append(tuple([places[lot] for lot in made]))
        for at in range(before, index + 1):
            for place in range(len(grown[at]), len(lots)):
                more = stepped(broods[at][0], lots[place][3])
                cost = broods[at][1] + lots[place][1]
                if more not in best or cost < best[more]:
                    best[more] = cost
                    heappush(queue, (cost, more, (at, place)))
                grown[at].append(more)
    moves = [[indexes[after] for after in grown[number]] for number in range(len(broods))]
    return Closure(machine, lots, broods, moves, answers)


def brood_index(closure, tree):
    """Return the index of the brood of a tree's brothers."""
    brood = 0
    for brother in tree[1:]:
        brood = closure.moves[brood][lot_index(closure, brother)]
    return brood


def lot_index(closure, tree):
    """Return the index of the lot of a tree."""
    return closure.answers[brood_index(closure, tree)][closure.heads.index(tree[0])]


def prospects_of(closure):
    """Return for each brood the list that has for each sign the lots, a bit for each, that trees may come to have.

    These are the lots of the sign above the brood and any brothers more.
    """
    many = len(closure.members)
    masks = [sum([1 << (at * many + lot) for at, lot in enumerate(row)]) for row in closure.answers]
    spread = _spread_once(closure, masks)
    while spread != masks:
        masks = spread
        spread = _spread_once(closure, masks)
    lots = (1 << many) - 1
    return [[mask >> (at * many) & lots for at in range(len(closure.heads))] for mask in masks]


def _spread_once(closure, masks):
    """Return for each brood its mask together with those of the broods to which it moves."""
    spread = list(masks)
    # Most moves lead to later broods, so that these come first.
    for brood in reversed(range(len(spread))):
        for after in closure.moves[brood]:
            spread[brood] = spread[brood] | spread[after]
    return spread
