"""Texts and digests of plain data."""

from alikeplay.checks import require
from alikeplay.plaintexts import text_of

FIRST = 7
FACTOR = 131
MODULUS = 2147483647


def data_text(data):
    """Return the text of plain data."""
    text = text_of(data)
    require(text is not None, "data")
    return text


def digest(data):
    """Return the number that comes of the text of plain data."""
    number = FIRST
    for sign in data_text(data):
        number = (FACTOR * number + ord(sign)) % MODULUS
    return number
