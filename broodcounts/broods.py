"""Broods: how many of the brothers have each kind, up to a cap and by remainder."""

from broodcounts.basics import is_number, lot_made, named, rules_held
from broodcounts.errors import InvalidBrood, InvalidLot, InvalidLots, UnknownSign
from broodcounts.wishes import ascends, check_book


def cap_and_step(book):
    """Return the tuple of the cap and the step of a book."""
    check_book(book)
    return (book.machine.cap, book.machine.step)


def is_lot(kinds, thing):
    """Return whether an object is an ascending tuple of different kinds."""
    return isinstance(thing, tuple) and all([kind in kinds for kind in thing]) and ascends(thing)


def is_brood(machine, thing):
    """Return whether an object has the form of a brood: whether some list of lots has it does not matter."""
    if not isinstance(thing, tuple) or len(thing) != len(machine.fitted):
        return False
    return all([_is_part(machine, part) for part in thing])


def _is_part(machine, part):
    """Return whether an object is a number up to the cap and its rest."""
    if not isinstance(part, tuple) or len(part) != 2:
        return False
    number, rest = part
    if not is_number(number, 0, machine.cap) or not is_number(rest, 0, machine.step - 1):
        return False
    return number == machine.cap or rest == number % machine.step


def told_brood(machine, numbers):
    """Return the brood in which kinds and all have these numbers (states are such numbers, too)."""
    return tuple([(min(number, machine.cap), number % machine.step) for number in numbers])


def states_in(machine, brood):
    """Return the brood told by states."""
    return tuple([_state_in(machine, number, rest) for number, rest in brood])


def _state_in(machine, number, rest):
    """Return the state that a number up to the cap and a rest tell."""
    return number if number < machine.cap else number + (rest - number) % machine.step


def brood_of(book, lots):
    """Return the brood of a list of lots."""
    check_book(book)
    kinds = book.kinds
    if not isinstance(lots, list) or not all([is_lot(kinds, lot) for lot in lots]):
        raise InvalidLots("the lots are no list of ascending tuples of different kinds of the book")
    numbers = {kind: 0 for kind in kinds}
    for lot in lots:
        for kind in lot:
            numbers[kind] += 1
    return told_brood(book.machine, [numbers[kind] for kind in kinds] + [len(lots)])


def grown(book, brood, lot):
    """Return the brood of a list with a brood and one lot more."""
    check_book(book)
    machine = book.machine
    if not is_brood(machine, brood):
        raise InvalidBrood("the brood is none of the book")
    kinds = book.kinds
    if not is_lot(kinds, lot):
        raise InvalidLot("the lot is no ascending tuple of different kinds of the book")
    added = [1 if kind in lot else 0 for kind in kinds] + [1]
    return told_brood(machine, [state + more for state, more in zip(states_in(machine, brood), added)])


def step(book, sign, brood):
    """Return the lot of a tree with a sign whose brothers' lots have a brood."""
    check_book(book)
    machine = book.machine
    if sign not in machine.heads:
        raise UnknownSign("the sign is none of the book's signs")
    if not is_brood(machine, brood):
        raise InvalidBrood("the brood is none of the book")
    return named(machine, lot_made(machine, sign, rules_held(machine, states_in(machine, brood))))
