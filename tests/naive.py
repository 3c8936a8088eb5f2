"""The document's definitions, word for word and slow, to compare the program with."""

import random

from broodcounts.books import Book


def number_of(lots, kind):
    """How many of the lots have a kind (None: how many there are)."""
    return len(lots) if kind is None else sum(1 for lot in lots if kind in lot)


def fitted(ask, number):
    kind, low, high, step, rest = ask
    return number >= low and (high is None or number <= high) and number % step == rest


def made_lot(book, sign, lots):
    """The lot of a tree with a sign whose brothers have these lots."""
    return tuple(kind for kind in book.kinds if any(
        rule[0] == kind and rule[1] == sign and all(fitted(ask, number_of(lots, ask[0])) for ask in rule[2])
        for rule in book.rules))


def lot(book, tree):
    return made_lot(book, tree[0], [lot(book, brother) for brother in tree[1:]])


def is_met(wish, names):
    if isinstance(wish, str):
        return wish in names
    parts = [is_met(part, names) for part in wish[1:]]
    return {"not": lambda: not parts[0], "and": lambda: all(parts), "or": lambda: any(parts)}[wish[0]]()


def cap_and_step(book):
    asks = [ask for rule in book.rules for ask in rule[2]]
    cap = max([bound for ask in asks for bound in ask[1:3] if bound is not None], default=0) + 1
    step = next(step for step in (1, 2, 3, 4, 5, 6) if all(step % ask[3] == 0 for ask in asks))
    return cap, step


def brood(book, lots):
    cap, step = cap_and_step(book)
    numbers = [number_of(lots, kind) for kind in [*book.kinds, None]]
    return tuple((min(number, cap), number % step) for number in numbers)


def lots_and_broods(book):
    """All lots of a book, and for each of its broods a list of lots that has it."""
    lots, lists = set(), {brood(book, []): []}
    waiting = [[]]
    while waiting:
        found = {made_lot(book, sign, row) for row in waiting for sign in book.signs} - lots
        lots |= found
        longer = [[*row, added] for row in waiting for added in lots]
        longer += [[*row, added] for row in lists.values() for added in found]
        waiting = []
        for row in longer:
            if brood(book, row) not in lists:
                lists[brood(book, row)] = row
                waiting.append(row)
    return lots, lists


def random_ask(source, kinds, bound):
    low = source.randint(0, bound)
    step = source.choice([1, 1, 1, 2, 3])
    return (source.choice([*kinds, None]), low, source.choice([None, None, *range(low, bound + 1)]), step,
            source.randrange(step))


def random_book(source, signs=None, kinds="xyz", bound=2):
    """A book of at most these kinds with no number beyond the bound in its asks."""
    signs = signs or list("abc"[:source.randint(1, 3)])
    return Book(signs, [
        (source.choice(kinds), source.choice(signs),
         tuple(random_ask(source, kinds, bound) for _ in range(source.choice([0, 1, 1, 2]))))
        for _ in range(source.randint(0, 6))])


def random_books(seed, many, signs=None, kinds="xy", bound=2, most=150):
    """Books with few broods, always the same ones for a seed."""
    source = random.Random(seed)
    found = []
    while len(found) < many:
        book = random_book(source, signs, kinds, bound)
        cap, step = cap_and_step(book)
        if (cap + step) ** 2 <= most:
            found.append(book)
    return found


def random_tree(source, signs, places):
    """A tree of so many places, hardly ever plain."""
    rest, brothers = places - 1, []
    while rest > 0:
        part = source.randint(1, rest)
        brothers.append(random_tree(source, signs, part))
        rest -= part
    return (source.choice(signs), *brothers)


def random_wish(source, kinds, depth=3):
    if depth == 0 or source.random() < 0.3:
        return source.choice(kinds)
    word = source.choice(["not", "and", "or"])
    return (word, *[random_wish(source, kinds, depth - 1) for _ in range(1 if word == "not" else 2)])
