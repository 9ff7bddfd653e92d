"""The tokens of a script's text."""

from alikeplay.checks import require
from alikeplay.errors import BadScript
from alikeplay.names import DIGITS, LETTERS, LONGEST_NAME

LONGEST_TEXT = 4000
MOST_DIGITS = 10
GREATEST_NUMBER = 2147483647
DEEPEST = 10
BLANKS = " \n\t"
OPENING = "({"
CLOSING = ")}"
RESERVED = ("var", "func", "if", "else", "while", "wait", "return", "do", "or", "and", "not", "div", "mod")
SIGNS = ("{", "}", "(", ")", ";", ",", "@", "=", "==", "!=", "<", "<=", ">", ">=", "+", "-", "*")


def scan(text):
    """Return the list of the tokens of a text."""
    require(is_text(text), "text")
    return Scanner(text).tokens()


def is_text(value):
    """Tell whether the value can be the text of a script."""
    return isinstance(value, str) and len(value) <= LONGEST_TEXT


class Scanner:
    """A text and the place up to which its tokens were taken."""

    def __init__(self, text):
        self.text = text
        self.at = 0
        self.line = 1
        self.column = 1
        self.opened = 0

    def tokens(self):
        """Return the list of all tokens, the end included."""
        found = []
        self._pass_blanks()
        while self.at < len(self.text):
            found.append(self._token())
            self._pass_blanks()
        found.append(("end", "", self.line, self.column))
        return found

    def _pass_blanks(self):
        """Go behind blanks and comments."""
        inside = False
        while self.at < len(self.text):
            sign = self.text[self.at]
            inside = sign != "\n" if inside else sign == "#"
            if not inside and sign not in BLANKS:
                return
            self.at += 1
            if sign == "\n":
                self.line += 1
                self.column = 1
            else:
                self.column += 1

    def _token(self):
        """Take the token that begins here."""
        kind, characters = self._kind_and_characters()
        self._check_depth(characters)
        token = kind, characters, self.line, self.column
        self.at += len(characters)
        self.column += len(characters)
        return token

    def _kind_and_characters(self):
        sign = self.text[self.at]
        if sign in LETTERS:
            return self._word()
        if sign in DIGITS:
            return "number", self._number()
        for long in (2, 1):
            characters = self.text[self.at:self.at + long]
            if characters in SIGNS:
                return "sign", characters
        raise BadScript(self.line, self.column, "no token begins here")

    def _word(self):
        characters = self._longest(LETTERS + DIGITS)
        if len(characters) > LONGEST_NAME:
            raise BadScript(self.line, self.column, "a word has at most 12 characters")
        return "reserved" if characters in RESERVED else "name", characters

    def _number(self):
        characters = self._longest(DIGITS)
        if len(characters) > MOST_DIGITS or int(characters) > GREATEST_NUMBER:
            raise BadScript(self.line, self.column, "a number is at most 2147483647")
        return characters

    def _longest(self, signs):
        """Return as many characters from here on as are among the signs."""
        end = self.at
        while end < len(self.text) and self.text[end] in signs:
            end += 1
        return self.text[self.at:end]

    def _check_depth(self, characters):
        """Count what is open; a closing sign closes the last opening one, whatever its shape."""
        if characters in OPENING:
            if self.opened == DEEPEST:
                raise BadScript(self.line, self.column, "nested too deep")
            self.opened += 1
        elif characters in CLOSING and self.opened > 0:
            self.opened -= 1
