"""The tokens of a text, and a cursor that takes them one by one."""

from callwarrant.errors import BadText
from callwarrant.words import LARGEST, LOWER, RESERVED, UPPER, is_class_word, is_name

BLANKS = " \n"
DIGITS = "0123456789"
SIGNS = ("(", ")", "{", "}", ":", ",", "=", ".", "+", "-", "*")
# The kinds of tokens; a sign and a word of RESERVED are their own kinds.
NAME = "name"
WORD = "word"
INTEGER = "integer"
END = "end"
STRANGE = "strange"


def tokens_of(text):
    """The tokens of the text, as triples (kind, text of the token, position).

    The last is of the kind END. What is no token is one of the kind STRANGE, which no grammar
    takes.
    """
    tokens = []
    at = 0
    while at < len(text):
        if text[at] in BLANKS:
            at = at + 1
            continue
        stop = end_of_token(text, at)
        token = text[at:stop]
        tokens.append((kind_of(token), token, at))
        at = stop
    tokens.append((END, "", len(text)))
    return tokens


def end_of_token(text, at):
    """The position behind the word, the digits or the single character at this position."""
    if text[at] in DIGITS:
        return end_of_run(text, at, DIGITS)
    if text[at] in LOWER or text[at] in UPPER:
        return end_of_run(text, at, LOWER + UPPER)
    return at + 1


def end_of_run(text, at, characters):
    """The first position from this one on where none of the characters stands."""
    while at < len(text) and text[at] in characters:
        at = at + 1
    return at


def kind_of(token):
    """The kind of a word, of digits that stand together or of a single character."""
    if token in SIGNS or token in RESERVED:
        return token
    if is_name(token):
        return NAME
    if is_class_word(token):
        return WORD
    if token[0] in DIGITS and is_number(token):
        return INTEGER
    return STRANGE


def is_number(digits):
    """Whether the digits are an integer of the language."""
    # The length comes first, as Python reads no integers of very many digits.
    if len(digits) > len(str(LARGEST)) or int(digits) > LARGEST:
        return False
    return digits == str(int(digits))


class Cursor:
    """A place among the tokens of a text."""

    def __init__(self, text):
        self.tokens = tokens_of(text)
        self.place = 0

    def kind(self):
        """The kind of the token at the cursor."""
        return self.tokens[self.place][0]

    def kind_behind(self):
        """The kind of the token behind the one at the cursor, which is not the last."""
        return self.tokens[self.place + 1][0]

    def take(self, kind):
        """Goes over a token of this kind and returns its text; BadText if it is another."""
        found, told, at = self.tokens[self.place]
        if found != kind:
            raise BadText(at)
        self.place = self.place + 1
        return told

    def skip(self, kind):
        """Goes over the token if it is of this kind, and returns whether it was."""
        found = self.kind() == kind
        if found:
            self.take(kind)
        return found


def read_class_name(cursor):
    """The class name at the cursor."""
    module = cursor.take(NAME)
    cursor.take(".")
    return module + "." + cursor.take(WORD)


def read_generic_name(cursor):
    """The generic name at the cursor."""
    module = cursor.take(NAME)
    cursor.take(".")
    return module + "." + cursor.take(NAME)
