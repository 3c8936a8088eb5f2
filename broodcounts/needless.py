"""Books with a rule or an ask less, and the rules and asks that a wish does not need."""

from broodcounts.basics import is_number
from broodcounts.books import Book
from broodcounts.errors import InvalidNumber
from broodcounts.survey import Survey
from broodcounts.wishes import check_asked, check_book, meets


def without_rule(book, index):
    """Return the book without a rule."""
    check_book(book)
    rules = book.rules
    _check_index(rules, index)
    return Book(book.signs, rules[:index] + rules[index + 1:])


def without_ask(book, index, ask):
    """Return the book in which a rule has one of its asks, told by its index, no more."""
    check_book(book)
    rules = book.rules
    _check_index(rules, index)
    kind, sign, asks = rules[index]
    _check_index(asks, ask)
    rules[index] = (kind, sign, asks[:ask] + asks[ask + 1:])
    return Book(book.signs, rules)


def _check_index(rows, index):
    """Raise InvalidNumber unless an object is an index of rules or asks."""
    if not is_number(index, 0, len(rows) - 1):
        raise InvalidNumber("there is no rule or no ask with this index")


def needless_rules(book, wish):
    """Return the ascending list of the indexes of rules without which the wish has the same trees."""
    check_asked(book, wish)
    places, survey = _surveyed(book, wish)
    return [index for index in range(len(book))
            if index not in places or survey.is_same_without_rule(places[index])]


def needless_asks(book, wish):
    """Return the ascending list of the (index, ask) without which the wish has the same trees."""
    check_asked(book, wish)
    places, survey = _surveyed(book, wish)
    return [(index, ask) for index, (_, _, asks) in enumerate(book.rules) for ask in range(len(asks))
            if index not in places or survey.is_same_without_ask(places[index], ask)]


def _surveyed(book, wish):
    """Return the indexes of the rules that may count for a wish, each with its place, and the survey of these rules."""
    rules = book.rules
    counting = _kinds_that_count(rules, _kinds_seen(book, wish))
    kept = [index for index, rule in enumerate(rules) if rule[0] in counting]
    places = {index: place for place, index in enumerate(kept)}
    return (places, Survey(Book(book.signs, [rules[index] for index in kept]), wish))


def _kinds_seen(book, wish):
    """Return the kinds of a book on which it hangs whether a lot is of a wish."""
    named = _kinds_named(book, wish)
    lots = [()]
    for kind in named:
        lots = lots + [(*lot, kind) for lot in lots]
    return [kind for kind in named if any([meets(lot, wish) != meets((*lot, kind), wish) for lot in lots])]


def _kinds_named(book, wish):
    """Return the different kinds of a book that stand in a wish."""
    kinds = book.kinds
    found = {}
    waiting = [wish]
    while waiting:
        part = waiting.pop()
        if isinstance(part, tuple):
            waiting.extend(part[1:])
        elif part in kinds:
            found[part] = True
    return list(found)


def _kinds_that_count(rules, seen):
    """Return the kinds that are seen, and those that rules of such kinds ask for, and so on."""
    found = {}
    waiting = list(seen)
    while waiting:
        kind = waiting.pop()
        if kind not in found:
            found[kind] = True
            asks = [ask for told, _, row in rules if told == kind for ask in row]
            # An ask that each number fits makes no difference, whatever it asks for.
            waiting.extend([ask[0] for ask in asks if ask[0] is not None and ask[1:] != (0, None, 1, 0)])
    return found
