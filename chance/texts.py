"""Texts of terms and tests: reading them, and writing them."""

from chance.checks import is_test
from chance.errors import Malformed
from chance.terms import is_term, parts_of
from chance.tokens import Reader, is_number, is_word

MOST_LEVELS = 24
# How many digits of a number are written at once, and the least number with more of them.
DIGITS_AT_ONCE = 18
CHUNK = 1000000000000000000

# The words that begin a test or a term, and what stands behind them.
TESTS = {
    "even": (),
    "rising": (),
    "less": ("number",),
    "size": ("number",),
    "equals": ("value",),
    "not": ("test",),
    "all": ("test",),
    "any": ("test",),
    "both": ("test", "test"),
    "either": ("test", "test"),
}
MAPS = {
    "sum": ("term",),
    "size": ("term",),
    "sort": ("term",),
    "reverse": ("term",),
    "flat": ("term",),
    "add": ("number", "term"),
    "mul": ("number", "term"),
    "mod": ("number", "term"),
}
HEADS = {
    "list": ("number", "..", "number", "term"),
    "shuffle": ("value",),
    "keep": ("test", "number", "term"),
    "let": ("word", "term", "term"),
    "grow": ("number", "term", "term"),
}


def _read_sign(reader, sign):
    """Take the sign."""
    if reader.seen() != sign:
        reader.refuse()
    reader.take()


def _read_number(reader):
    """Take a number and return it."""
    if not is_number(reader.seen()):
        reader.refuse()
    return int(reader.take())


def _read_word(reader):
    """Take a word and return it."""
    if not is_word(reader.seen()):
        reader.refuse()
    return reader.take()


def _read_item(reader, level, kind):
    """Take something of a kind and of a level, if that kind has levels, and return it."""
    if kind == "number":
        return _read_number(reader)
    if kind == "word":
        return _read_word(reader)
    if kind == "value":
        return _read_value(reader, level)
    if kind == "test":
        return _read_test(reader, level)
    if kind == "pair":
        return _read_pair(reader, level)
    return _read_term(reader, level)


def _read_items(reader, level, kinds):
    """Take something of each of these kinds, and return the list of it without the sign between two numbers."""
    found = []
    for kind in kinds:
        if kind == "..":
            _read_sign(reader, kind)
        else:
            found.append(_read_item(reader, level, kind))
    return found


def _read_row(reader, level, kind, end):
    """Take a row with commas, perhaps an empty one, and the sign at its end, and return it as a tuple."""
    found = []
    if reader.seen() != end:
        found.append(_read_item(reader, level, kind))
        while reader.seen() == ",":
            reader.take()
            found.append(_read_item(reader, level, kind))
    _read_sign(reader, end)
    return tuple(found)


def _read_value(reader, level):
    """Take a value, which has the level if it stands in parentheses, and return it."""
    if reader.seen() != "(":
        return _read_number(reader)
    if level > MOST_LEVELS:
        reader.refuse()
    reader.take()
    return _read_row(reader, level + 1, "value", ")")


def _read_test(reader, level):
    """Take a test of the level and return it."""
    if level > MOST_LEVELS or reader.seen() not in TESTS:
        reader.refuse()
    word = reader.take()
    return (word, *_read_items(reader, level + 1, TESTS[word]))


def _read_term(reader, level):
    """Take a term of the level and return it."""
    if level > MOST_LEVELS:
        reader.refuse()
    token = reader.seen()
    if is_number(token):
        return _read_from_number(reader)
    if token == "(":
        return ("const", _read_value(reader, level + 1))
    if is_word(token):
        return _read_headed(reader, level)
    return _read_signed(reader, level)


def _read_from_number(reader):
    """Take a const, a range or an upto that begins with a number, and return it."""
    low = _read_number(reader)
    if reader.seen() != "..":
        return ("const", low)
    reader.take()
    if reader.seen() != "$":
        return ("range", low, _read_number(reader))
    reader.take()
    if low != 0:
        reader.refuse()
    return ("upto", _read_word(reader))


def _read_headed(reader, level):
    """Take a term of the level that begins with a word, and return it."""
    word = reader.seen()
    if word in MAPS:
        reader.take()
        items = _read_items(reader, level + 1, MAPS[word])
        return ("map", (word, *items[:-1]), items[-1])
    if word not in HEADS:
        reader.refuse()
    reader.take()
    return (word, *_read_items(reader, level + 1, HEADS[word]))


def _read_signed(reader, level):
    """Take a term of the level that begins with a sign other than a parenthesis, and return it."""
    sign = reader.seen()
    if sign not in ("$", "!", "@", "{", "["):
        reader.refuse()
    reader.take()
    if sign == "$":
        return ("var", _read_word(reader))
    if sign == "!":
        return ("discard",)
    if sign == "@":
        return ("self",)
    if sign == "{":
        return ("tuple", _read_row(reader, level + 1, "term", "}"))
    if reader.seen() == "|":
        return ("pick", _read_picked(reader, level + 1))
    if reader.seen() == "]":
        # A row may be empty, but not this one.
        reader.refuse()
    return ("weigh", _read_row(reader, level + 1, "pair", "]"))


def _read_picked(reader, level):
    """Take the terms of the level, each behind a bar, and the bracket at their end; return them as a tuple."""
    found = []
    while reader.seen() == "|":
        reader.take()
        found.append(_read_term(reader, level))
    _read_sign(reader, "]")
    return tuple(found)


def _read_pair(reader, level):
    """Take a weight and its term of the level, and return the pair of them."""
    weight = _read_number(reader)
    _read_sign(reader, ":")
    return (weight, _read_term(reader, level))


def _read_end(reader):
    """Check that all tokens are taken."""
    if reader.seen() != "":
        reader.refuse()


def parse(text):
    """Return the closed term that a text tells."""
    reader = Reader(text)
    term = _read_term(reader, 1)
    _read_end(reader)
    if not is_term(term):
        raise Malformed(len(text))
    return term


def parse_test(text):
    """Return the test that a text tells."""
    reader = Reader(text)
    test = _read_test(reader, 1)
    _read_end(reader)
    if not is_test(test):
        raise Malformed(len(text))
    return test


def _number_text(number):
    """Return the digits of an integer, with a minus sign before them if it is negative."""
    # Python itself refuses to write very long numbers, so they are written in parts.
    left = abs(number)
    written = []
    while left >= CHUNK:
        left, low = divmod(left, CHUNK)
        written.append(str(low).zfill(DIGITS_AT_ONCE))
    written.append(str(left))
    if number < 0:
        written.append("-")
    return "".join(written[::-1])


def _value_text(value):
    """Return the text of a value."""
    # Values may be nested deeper than Python nests calls, so what is still to write is kept in a list.
    written = []
    waiting = [value]
    while waiting:
        part = waiting.pop()
        if isinstance(part, str):
            written.append(part)
        elif isinstance(part, int):
            written.append(_number_text(part))
        else:
            waiting.append(")")
            for at in range(len(part) - 1, -1, -1):
                waiting.append(part[at])
                if at > 0:
                    waiting.append(", ")
            waiting.append("(")
    return "".join(written)


def _item_text(item, kind):
    """Return the text of something of a kind."""
    if kind == "word":
        return item
    if kind == "test":
        return show_test(item)
    if kind == "term":
        return show(item)
    return _value_text(item)


def _items_text(word, items, kinds):
    """Return the text of a word and of what stands behind it, which is of these kinds."""
    written = [word]
    used = 0
    for kind in kinds:
        if kind == "..":
            written.append(kind)
        else:
            written.append(_item_text(items[used], kind))
            used += 1
    return " ".join(written)


def show_test(test):
    """Return the text of a test."""
    return _items_text(test[0], test[1:], TESTS[test[0]])


def show(term):
    """Return the text of a term."""
    head = term[0]
    if head == "map":
        operation = term[1]
        return _items_text(operation[0], (*operation[1:], term[2]), MAPS[operation[0]])
    if head in HEADS:
        return _items_text(head, term[1:], HEADS[head])
    parts = [show(part) for part in parts_of(term)]
    if head == "tuple":
        return "{" + ", ".join(parts) + "}"
    if head == "pick":
        return "[| " + " | ".join(parts) + "]"
    if head == "weigh":
        pairs = [_number_text(pair[0]) + ": " + part for pair, part in zip(term[1], parts)]
        return "[" + ", ".join(pairs) + "]"
    return _leaf_text(term)


def _leaf_text(term):
    """Return the text of a const, a discard, a range, a var, an upto or a self."""
    head = term[0]
    if head == "const":
        return _value_text(term[1])
    if head == "range":
        return _number_text(term[1]) + ".." + _number_text(term[2])
    if head == "discard":
        return "!"
    if head == "self":
        return "@"
    return ("$" if head == "var" else "0..$") + term[1]
