"""Tokens: the words, numbers and signs of a text."""

from chance.errors import Malformed

MOST_CHARACTERS = 5000
MOST_DIGITS = 18

LETTERS = "abcdefghijklmnopqrstuvwxyz"
DIGITS = "0123456789"
SIGNS = "()[]{},:|$!@"


class Reader:
    """The tokens of a text, of which the first ones are taken."""

    def __init__(self, text):
        self._tokens = _tokens_of(text)
        self._end = len(text)
        self._taken = 0

    def seen(self):
        """Return the first token that is not taken, or the empty text if none is left."""
        return self._tokens[self._taken][0] if self._taken < len(self._tokens) else ""

    def take(self):
        """Return the first token that is not taken, and take it."""
        token = self.seen()
        self._taken += 1
        return token

    def refuse(self):
        """Raise the error that the first token that is not taken does not fit."""
        if self._taken < len(self._tokens):
            raise Malformed(self._tokens[self._taken][1])
        raise Malformed(self._end)


def _run_of(text, at, characters):
    """Return the longest run of these characters in the text from an index on."""
    end = at
    while end < len(text) and text[end] in characters:
        end += 1
    return text[at:end]


def _token_at(text, at):
    """Return the token that starts at an index of the text, or the empty text if none does."""
    if text[at] in LETTERS:
        return _run_of(text, at, LETTERS)
    if text[at] in SIGNS:
        return text[at]
    if text[at:at + 2] == "..":
        return ".."
    minus = "-" if text[at] == "-" else ""
    digits = _run_of(text, at + len(minus), DIGITS)
    if not 1 <= len(digits) <= MOST_DIGITS:
        return ""
    if digits[0] == "0" and minus + digits != "0":
        return ""
    return minus + digits


def _tokens_of(text):
    """Return the list of pairs of a token of the text and its index."""
    if len(text) > MOST_CHARACTERS:
        raise Malformed(MOST_CHARACTERS)
    found = []
    at = 0
    while at < len(text):
        if text[at] == " ":
            at += 1
            continue
        token = _token_at(text, at)
        if token == "":
            raise Malformed(at)
        found.append((token, at))
        at += len(token)
    return found


def is_number(token):
    """Return True if a token is a number."""
    return token != "" and token[-1] in DIGITS


def is_word(token):
    """Return True if a token is a word."""
    return token != "" and token[0] in LETTERS
