"""Texts of trees, rules, wishes and books."""

from broodcounts.basics import is_name
from broodcounts.books import MOST_RULES, Book, is_ask, is_rule
from broodcounts.errors import InvalidRule, ParseError
from broodcounts.trees import check_signs, check_tree, is_signs
from broodcounts.wishes import check_book, check_wish

NUMBERS = {"0": 0, "1": 1, "2": 2, "3": 3, "4": 4, "5": 5}
# How many wishes each of these words joins.
WORDS = {"not": 1, "and": 2, "or": 2}


def format_tree(signs, tree):
    """Return the text of a tree."""
    check_tree(signs, tree)
    return _tree_text(tree)


def _tree_text(tree):
    """Return the text of what surely is a tree."""
    if len(tree) == 1:
        return tree[0]
    brothers = ",".join([_tree_text(brother) for brother in tree[1:]])
    return f"{tree[0]}({brothers})"


def format_rule(signs, rule):
    """Return the text of a rule."""
    if not is_rule(signs, rule):
        raise InvalidRule("the rule is no rule of the signs")
    return _rule_text(rule)


def _rule_text(rule):
    """Return the text of what surely is a rule."""
    kind, sign, asks = rule
    return " ".join([kind, "=", sign] + [_ask_text(ask) for ask in asks])


def _ask_text(ask):
    """Return the text of what surely is an ask."""
    kind, low, high, step, rest = ask
    name = "*" if kind is None else kind
    most = "" if high is None else str(high)
    text = f"{name}:{low}-{most}"
    return text if step == 1 else f"{text}@{step}+{rest}"


def format_wish(wish):
    """Return the text of a wish."""
    check_wish(wish)
    words = []
    waiting = [wish]
    while waiting:
        part = waiting.pop()
        if isinstance(part, tuple):
            words.append(part[0])
            waiting.extend(part[:0:-1])
        else:
            words.append("'" + part if part in WORDS else part)
    return " ".join(words)


def format_book(book):
    """Return the text of a book."""
    check_book(book)
    return "\n".join([" ".join(["signs"] + book.signs)] + [_rule_text(rule) for rule in book.rules])


def parse_tree(signs, text):
    """Return the tree that a text tells, brothers in the order in which they stand there."""
    check_signs(signs)
    return _told(read_tree(signs, text))


def _told(thing):
    """Return what a text tells; raise ParseError if it tells nothing."""
    if thing is None:
        raise ParseError(0)
    return thing


def read_tree(signs, text):
    """Return the tree of what surely are signs that an object is the text of, or None."""
    if not isinstance(text, str) or " " in text:
        return None
    words = text.replace("(", " ( ").replace(",", " , ").replace(")", " ) ").split(" ")
    words = [word for word in words if word != ""]
    # The trees told so far within each open bracket; the outermost row is for the whole tree.
    rows = [[]]
    before = "("
    for word in words:
        if before in ("(", ","):
            if word not in signs:
                return None
            rows[-1].append((word,))
        elif word == ")" and len(rows) > 1:
            brothers = rows.pop()
            sign = rows[-1].pop()[0]
            rows[-1].append((sign, *brothers))
        elif word == "(" and before != ")":
            rows.append([])
        elif word != "," or len(rows) == 1:
            return None
        before = word
    return rows[0][0] if len(rows) == 1 and before not in ("(", ",") else None


def parse_rule(signs, text):
    """Return the rule that a text tells."""
    check_signs(signs)
    return _told(_read_rule(signs, text))


def _read_rule(signs, text):
    """Return the rule of what surely are signs that an object is the text of, or None."""
    words = text.split(" ") if isinstance(text, str) else []
    if len(words) < 3 or words[1] != "=":
        return None
    rule = (words[0], words[2], tuple([_read_ask(word) for word in words[3:]]))
    return rule if is_rule(signs, rule) else None


def _read_ask(word):
    """Return the ask that a word is the text of, or None."""
    name, _, numbers = word.partition(":")
    bounds, at, remainder = numbers.partition("@")
    low, _, high = bounds.partition("-")
    step, _, rest = remainder.partition("+") if at else ("1", "", "0")
    kind = None if name == "*" else name
    most = None if high == "" else NUMBERS.get(high, -1)
    ask = (kind, NUMBERS.get(low, -1), most, NUMBERS.get(step, -1), NUMBERS.get(rest, -1))
    # Each ask has just one text: so marks that are left out, and a step of 1, are found here.
    return ask if is_ask(ask) and _ask_text(ask) == word else None


def parse_wish(text):
    """Return the wish that a text tells."""
    return _told(read_wish(text))


def read_wish(text):
    """Return the wish that an object is the text of, or None."""
    if not isinstance(text, str):
        return None
    parts = []
    for word in reversed(text.split(" ")):
        if word in WORDS:
            if len(parts) < WORDS[word]:
                return None
            joined = [parts.pop() for _ in range(WORDS[word])]
            parts.append((word, *joined))
        elif is_name(word):
            parts.append(word)
        elif word[:1] == "'" and word[1:] in WORDS:
            parts.append(word[1:])
        else:
            return None
    return parts[0] if len(parts) == 1 else None


def parse_book(text):
    """Return the book that a text tells."""
    lines = text.split("\n") if isinstance(text, str) else [""]
    words = lines[0].split(" ")
    signs = words[1:]
    if words[0] != "signs" or not is_signs(signs):
        raise ParseError(0)
    rules = []
    for index, line in enumerate(lines[1:]):
        rule = _read_rule(signs, line)
        if rule is None or index == MOST_RULES:
            raise ParseError(index + 1)
        rules.append(rule)
    return Book(signs, rules)
