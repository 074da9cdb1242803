"""The lexemes of texts: words, numerals and signs."""

from figureclaims.errors import BadText
from figureclaims.words import LONGEST_NAME, is_digit, is_letter

BLANKS = " \n"
SIGNS = "{};,/-"


def lexemes(text):
    """The list of the lexemes of a string, as tuples (sort, lexeme, place)."""
    found, bad = scanned(text)
    if bad is not None:
        raise BadText(bad)
    return found


def scanned(text):
    """The lexemes ahead of the first character that begins none, and its place, or None."""
    found = []
    at = 0
    while at < len(text):
        if text[at] in BLANKS:
            at += 1
            continue
        sort, end = _lexeme_at(text, at)
        if sort is None:
            return found, at
        found.append((sort, text[at:end], at))
        at = end
    return found, None


def _lexeme_at(text, at):
    """The sort of the lexeme that begins at a place, or None, and where it ends."""
    first = text[at]
    if is_letter(first):
        end = _word_end(text, at)
        return ("word" if end - at <= LONGEST_NAME else None), end
    if is_digit(first):
        return "numeral", _numeral_end(text, at)
    return ("sign" if first in SIGNS else None), at + 1


def _word_end(text, at):
    end = at
    while end < len(text) and (is_letter(text[end]) or is_digit(text[end])):
        end += 1
    return end


def _numeral_end(text, at):
    end = at + 1
    while text[at] != "0" and end < len(text) and is_digit(text[end]):
        end += 1
    return end
