"""A book beside itself with a rule or an ask less: whether a wish has the same trees by both."""

from broodcounts.basics import ask_loops, closed, fits, lot_made, named, rules_held, stepped, steps_of
from broodcounts.surroundings import kin_numbers
from broodcounts.wishes import meets, wished_lots


class Change:
    """A rule that is taken away (``rest`` is None), or that keeps only the asks ``rest``.

    ``bit`` is the rule's, ``place`` the index of its sign. ``parted`` has a bit
    for each brood above which the sign is of the rule's kind by just one of the
    book and the changed one.
    """

    def __init__(self, index, kind, place, rest, parted):
        self.bit = 1 << index
        self.kind = kind
        self.place = place
        self.rest = rest
        self.parted = parted


class Survey:
    """What the trees of a book tell of its rules and asks, for a wish.

    Lots and broods are told by their indexes in the closure ``known``. A lot
    stands for all that are kin to it by the first of them (``lot_heads``), a
    brood by the first one from which brothers more and surroundings cannot
    part it (``brood_heads``). A set of broods is an integer, a bit for each:
    ``fitting`` has for each rule and each of its asks those that fit it,
    ``above`` for each sign and lot those above which the sign has this lot,
    ``making`` for each sign those of the least trees that make the lots, and
    ``once`` and ``twice`` for each kind and sign those at which at least one
    and at least two rules of both hold.
    """

    def __init__(self, book, wish):
        self.wish = wish
        self.told = book.rules
        self.base = book.machine
        self.loops = ask_loops(self.base, [ask for _, _, asks in self.told for ask in asks])
        self.known = closed(self.base, self.loops)
        self.steps = {}
        self.lot_places = {lot: index for index, lot in enumerate(self.known.members)}
        self.brood_places = {brood: index for index, brood in enumerate(self.known.broods)}
        self.wished = wished_lots(self.known, wish)
        self.lot_heads = _firsts(kin_numbers(self.known, self.wished))
        self.brood_heads = _brood_heads(self.known, self.lot_heads)
        self.above = _above(self.known)
        self.making = _making(self.known)
        self.fitting = _fitting(self.base, self.known, self.told)
        self.once = {}
        self.twice = {}
        for (kind, sign, _), row in zip(self.told, self.fitting):
            holding = self._common(row)
            once = self.once.get((kind, sign), 0)
            self.twice[kind, sign] = self.twice.get((kind, sign), 0) | (once & holding)
            self.once[kind, sign] = once | holding

    def _common(self, row):
        """Return the broods that are in all sets of a row."""
        common = (1 << len(self.known.broods)) - 1
        for broods in row:
            common = common & broods
        return common

    def is_same_without_rule(self, index):
        """Return whether the wish has the same trees without a rule."""
        kind, sign, _ = self.told[index]
        parted = self._common(self.fitting[index]) & ~self.twice[kind, sign]
        return self._is_same(Change(index, kind, self.known.heads.index(sign), None, parted))

    def is_same_without_ask(self, index, ask):
        """Return whether the wish has the same trees if a rule is without one of its asks."""
        kind, sign, asks = self.told[index]
        row = self.fitting[index]
        parted = self._common(row[:ask] + row[ask + 1:]) & ~self.once[kind, sign]
        rest = asks[:ask] + asks[ask + 1:]
        return self._is_same(Change(index, kind, self.known.heads.index(sign), rest, parted))

    def _is_same(self, change):
        """Return whether the wish has the same trees by the changed book."""
        if change.parted == 0:
            return True
        above = self.above[change.place]
        lots = [lot for lot, broods in enumerate(above) if broods & change.parted]
        others = [self._turned(lot, change.kind) for lot in lots]
        # Where each lot has a tree that the change leaves as it is, lots that part must be kin, and no more.
        if change.parted & self.making[change.place] == 0 and not any([isinstance(lot, tuple) for lot in others]):
            return all([self.lot_heads[lot] == self.lot_heads[other] for lot, other in zip(lots, others)])
        return self._leads_alike(change)

    def _turned(self, lot, kind):
        """Return the lot with a kind more or less: its index, or its names where no tree of the book has it."""
        names = self.known.members[lot]
        rest = [name for name in names if name != kind]
        told = tuple(rest) if len(rest) < len(names) else tuple(sorted([*names, kind]))
        return self.lot_places.get(told, told)

    def _leads_alike(self, change):
        """Return whether each lot and brood by the changed book comes with just one head by the book, as wished.

        The heads are those of the least machine for the wish: two of them for
        one lot or brood lead to trees that one of the two books tells apart.
        """
        lots = {}
        broods = {0: self.brood_heads[0]}
        order = [0]
        at = 0
        while at < len(order):
            brood = order[at]
            many = len(lots)
            heads = [self.lot_heads[lot] for lot in self.known.answers[broods[brood]]]
            for lot, head in zip(self._answers(change, brood), heads):
                if lots.setdefault(lot, head) != head or self._is_wished(lot) != self.wished[head]:
                    return False
            fresh = list(lots)[many:]
            pairs = [(brood, lot) for lot in lots] + [(before, lot) for before in order[:at] for lot in fresh]
            for before, lot in pairs:
                more = self._moved(before, lot)
                head = self.brood_heads[self.known.moves[broods[before]][lots[lot]]]
                if more not in broods:
                    order.append(more)
                if broods.setdefault(more, head) != head:
                    return False
            at += 1
        return True

    def _answers(self, change, brood):
        """Return the list of the lots that all signs have above a brood by the changed book."""
        if isinstance(brood, tuple):
            rules = self._changed(change, brood, rules_held(self.base, brood))
            lots = [named(self.base, lot_made(self.base, sign, rules)) for sign in self.known.heads]
            return [self.lot_places.get(lot, lot) for lot in lots]
        lots = list(self.known.answers[brood])
        if change.parted >> brood & 1:
            lots[change.place] = self._turned(lots[change.place], change.kind)
        return lots

    def _changed(self, change, brood, rules):
        """Return the rules that hold above a brood by the changed book, if these hold there by the book."""
        if change.rest is None:
            return rules & ~change.bit
        numbers = {kind: state for kind, state in zip(self.base.names + [None], brood)}
        held = all([fits(ask, numbers[ask[0]]) for ask in change.rest])
        return rules | change.bit if held else rules

    def _is_wished(self, lot):
        """Return whether a lot is of the wish."""
        return meets(lot, self.wish) if isinstance(lot, tuple) else self.wished[lot]

    def _moved(self, brood, lot):
        """Return the brood with one brother of a lot more: its index, or its states where the book has it not."""
        if not isinstance(brood, tuple) and not isinstance(lot, tuple):
            return self.known.moves[brood][lot]
        if lot not in self.steps:
            names = lot if isinstance(lot, tuple) else self.known.members[lot]
            self.steps[lot] = steps_of(self.loops, [self.base.names.index(name) for name in names])
        more = stepped(brood if isinstance(brood, tuple) else self.known.broods[brood], self.steps[lot])
        return self.brood_places.get(more, more)


def _firsts(keys):
    """Return for each key the index of the first one that is the same."""
    first = {}
    return [first.setdefault(key, at) for at, key in enumerate(keys)]


def _brood_heads(known, lot_heads):
    """Return for each brood the first one that no brothers more lead to lots with other heads."""
    lots = sorted(set(lot_heads))
    heads = _firsts([tuple([lot_heads[lot] for lot in row]) for row in known.answers])
    many = 0
    while len(set(heads)) > many:
        many = len(set(heads))
        heads = _firsts([(head, *[heads[row[lot]] for lot in lots]) for head, row in zip(heads, known.moves)])
    return heads


def _above(known):
    """Return for each sign the list that has for each lot the broods above which the sign has it."""
    above = [[0 for _ in known.members] for _ in known.heads]
    for brood, row in enumerate(known.answers):
        for place, lot in enumerate(row):
            above[place][lot] = above[place][lot] | 1 << brood
    return above


def _making(known):
    """Return for each sign the broods above which it makes the least tree of some lot."""
    making = [0 for _ in known.heads]
    for sign, brood in known.makers:
        place = known.heads.index(sign)
        making[place] = making[place] | 1 << brood
    return making


def _fitting(base, known, rules):
    """Return for each rule the list that has for each of its asks the broods that fit it."""
    states = {kind: _broods_by_state(known, part) for part, kind in enumerate(base.names + [None])}
    return [[_fitting_ask(ask, states[ask[0]]) for ask in asks] for _, _, asks in rules]


def _broods_by_state(known, part):
    """Return for each state the broods that have it in a part."""
    found = {}
    for index, brood in enumerate(known.broods):
        found[brood[part]] = found.get(brood[part], 0) | 1 << index
    return found


def _fitting_ask(ask, states):
    """Return the broods that fit an ask."""
    return sum([broods for state, broods in states.items() if fits(ask, state)])
