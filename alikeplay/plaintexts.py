"""The texts of plain data, and the data of texts."""

from alikeplay.names import DIGITS
from alikeplay.whole import is_whole

# Numbers are written and read in pieces of so many digits, because Python refuses to do it with very long ones.
PIECE = 64


def text_of(data):
    """Return the text of plain data, or None if the value is none."""
    pieces = []
    # What is still to be written, the next part last: pairs of a text and None, or of None and data.
    ahead = [(None, data)]
    while ahead:
        text, value = ahead.pop()
        if isinstance(value, tuple):
            text = "("
            ahead.append((")", None))
            for index in range(len(value) - 1, -1, -1):
                ahead.append((None, value[index]))
                ahead.append(("," if index > 0 else "", None))
        elif text is None:
            text = _single_text(value)
        if text is None:
            return None
        pieces.append(text)
    return "".join(pieces)


def _single_text(value):
    """Return the text of plain data that is no tuple, or None if the value is none."""
    if value is None:
        return "n"
    if value is True or value is False:
        return "t" if value else "f"
    if is_whole(value):
        return "-" + _digits(-value) if value < 0 else _digits(value)
    if isinstance(value, str) and '"' not in value:
        return '"' + value + '"'
    return None


def _digits(number):
    pieces = []
    while number >= 10 ** 64:
        number, piece = divmod(number, 10 ** 64)
        pieces.append(str(piece).zfill(PIECE))
    return str(number) + "".join(pieces[::-1])


def data_of(text):
    """Return a list with the plain data that has this text, or an empty list if none has it."""
    rows = [[]]
    at = 0
    while at < len(text):
        piece = _piece_at(text, at)
        at += len(piece)
        if piece == "(":
            rows.append([])
        elif piece == ")" and len(rows) > 1:
            row = tuple(rows.pop())
            rows[-1].append(row)
        else:
            rows[-1].extend(_single_data(piece))
    # Data have one text only, so whatever is wrong with this one, from its commas to its quotes, is found here.
    return rows[0] if [text_of(data) for data in rows[0]] == [text] else []


def _piece_at(text, at):
    """Return the number, the string in its quotes, or else the character that begins at this index."""
    end = at + 1
    if text[at] == '"':
        end = max(end, text.find('"', end) + 1)
    if text[at] == "-" or text[at] in DIGITS:
        while end < len(text) and text[end] in DIGITS:
            end += 1
    return text[at:end]


def _single_data(piece):
    """Return a list with the data of a piece that is no tuple, or an empty list if it has none."""
    if piece == "n":
        return [None]
    if piece == "t" or piece == "f":
        return [piece == "t"]
    if piece[0] == '"':
        return [piece[1:-1]]
    digits = piece[1:] if piece[0] == "-" else piece
    if digits == "" or digits[0] not in DIGITS:
        return []
    return [-_number(digits) if piece[0] == "-" else _number(digits)]


def _number(digits):
    first = len(digits) % PIECE
    number = int("0" + digits[:first])
    for at in range(first, len(digits), PIECE):
        number = number * 10 ** 64 + int(digits[at:at + PIECE])
    return number
