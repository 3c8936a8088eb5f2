"""Asks, rules, and the books that hold rules."""

from broodcounts.basics import Machine, closed, fits, full_loops, is_name, is_number, prospects_of, short_loops
from broodcounts.errors import InvalidAsk, InvalidMatch, InvalidNumber, InvalidRules
from broodcounts.trees import check_signs

GREATEST_BOUND = 5
GREATEST_STEP = 3
MOST_RULES = 200


def is_ask(thing):
    """Return whether an object is an ask."""
    if not isinstance(thing, tuple) or len(thing) != 5:
        return False
    kind, low, high, step, rest = thing
    if kind is not None and not is_name(kind):
        return False
    if not is_number(low, 0, GREATEST_BOUND):
        return False
    if high is not None and not is_number(high, low, GREATEST_BOUND):
        return False
    return is_number(step, 1, GREATEST_STEP) and is_number(rest, 0, step - 1)


def is_fit(ask, number):
    """Return whether an integer from 0 on fits an ask."""
    if not is_ask(ask):
        raise InvalidAsk("the ask is no ask")
    if not is_number(number, 0, None):
        raise InvalidNumber("the number is no integer from 0 on")
    return fits(ask, number)


def is_rule(signs, thing):
    """Return whether an object is a rule of signs."""
    check_signs(signs)
    if not isinstance(thing, tuple) or len(thing) != 3:
        return False
    kind, sign, asks = thing
    if not is_name(kind) or sign not in signs or not isinstance(asks, tuple):
        return False
    return all([is_ask(ask) for ask in asks])


def _are_rules(signs, thing):
    """Return whether an object is a list of at most two hundred rules of signs."""
    if not isinstance(thing, list) or len(thing) > MOST_RULES:
        return False
    return all([is_rule(signs, rule) for rule in thing])


def _kinds_in(rules):
    """Return the ascending list of the names that stand in rules as kind or in asks."""
    told = [kind for kind, _, _ in rules]
    asked = [ask[0] for _, _, asks in rules for ask in asks if ask[0] is not None]
    return sorted(set(told + asked))


class Book:
    """Signs and a list of rules of them."""

    def __init__(self, signs, rules):
        check_signs(signs)
        if not _are_rules(signs, rules):
            raise InvalidRules("the rules are no list of at most two hundred rules of the signs")
        self._signs = list(signs)
        self._rules = list(rules)
        self._kinds = _kinds_in(rules)
        self._machine = None
        self._closure = None
        self._full_closure = None
        self._prospects = None

    @property
    def signs(self):
        """Return the list of the signs, in order."""
        return list(self._signs)

    @property
    def rules(self):
        """Return the list of the rules, in order."""
        return list(self._rules)

    @property
    def kinds(self):
        """Return the ascending list of the kinds."""
        return list(self._kinds)

    @property
    def machine(self):
        """Return the rules put into numbers; worked out once, and only read."""
        if self._machine is None:
            self._machine = Machine(self._signs, self._kinds, self._rules)
        return self._machine

    @property
    def closure(self):
        """Return all lots, and as few broods as tell which rules hold; worked out once, and only read."""
        if self._closure is None:
            self._closure = closed(self.machine, short_loops(self.machine))
        return self._closure

    @property
    def full_closure(self):
        """Return all lots, and all broods that the document tells apart; worked out once, and only read."""
        if self._full_closure is None:
            self._full_closure = closed(self.machine, full_loops(self.machine))
        return self._full_closure

    @property
    def prospects(self):
        """Return which lots trees above each brood of the closure may come to have; worked out once, only read."""
        if self._prospects is None:
            self._prospects = prospects_of(self.closure)
        return self._prospects

    def __len__(self):
        return len(self._rules)

    def __eq__(self, other):
        if not isinstance(other, Book):
            return False
        return sorted(self._signs) == sorted(other._signs) and self._rules == other._rules

    def __or__(self, other):
        if not isinstance(other, Book):
            return NotImplemented
        if sorted(self._signs) != sorted(other._signs):
            raise InvalidMatch("the signs of the books are not the same")
        added = [rule for rule in other._rules if rule not in self._rules]
        return Book(self._signs, self._rules + added)
