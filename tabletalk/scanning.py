"""Tokens of texts: numbers, signs and the end."""

from tabletalk.checks import require
from tabletalk.errors import TextError

MOST_CHARACTERS = 2000
MOST_DIGITS = 6
DIGITS = "0123456789"
SIGNS = ":,;-="


def scan(text):
    """The list of the tokens of a text, each a tuple of its kind, its characters and its column."""
    check_text(text)
    return tokens_of(text)


def check_text(text):
    """Raises BadValue unless this is a string of so many characters as a text can have, without newlines."""
    require(isinstance(text, str) and len(text) <= MOST_CHARACTERS and "\n" not in text, "text")


def tokens_of(text):
    """What scan returns, without checks."""
    found = []
    at = 0
    while at < len(text):
        if text[at] == " ":
            at += 1
        else:
            token = token_at(text, at)
            found.append(token)
            at += len(token[1])
    return found + [("end", "", len(text) + 1)]


def token_at(text, at):
    """The token that begins with the character at this index."""
    if text[at] in SIGNS:
        return "sign", text[at], at + 1
    characters = digits_at(text, at)
    if characters == "":
        raise TextError(at + 1, "no token begins here")
    if len(characters) > MOST_DIGITS:
        raise TextError(at + 1, "a number has at most 6 digits")
    return "number", characters, at + 1


def digits_at(text, at):
    """As many digits as there are from this index on."""
    end = at
    # Other characters count as digits elsewhere, so they are told one by one here.
    while end < len(text) and text[end] in DIGITS:
        end += 1
    return text[at:end]
