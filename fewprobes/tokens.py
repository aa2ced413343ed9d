"""The tokens of the text of a source."""

from fewprobes.words import RESERVED, is_plain_word

LETTERS = "abcdefghijklmnopqrstuvwxyz"
DIGITS = "0123456789"
BLANKS = " \t\n"
SIGNS = "(){},;=<+-*"
MOST_DIGITS = 30


class Token:
    """A token, or what is none, with its kind and its place.

    The kind is "word" for what may name something, "number", "ending" for the
    end of the text, the text itself for reserved words and signs, and "wrong"
    for whatever stands in no text.
    """

    def __init__(self, kind, text, line, column):
        self.kind = kind
        self.text = text
        self.line = line
        self.column = column


def tokens_of(text):
    """The tokens of a text, its end behind them."""
    found = []
    at = 0
    line = 1
    begin = 0
    while at < len(text):
        end = end_of_piece(text, at)
        piece = text[at:end]
        if text[at] == "\n":
            line += 1
            begin = end
        elif text[at] != "#" and text[at] not in BLANKS:
            found.append(Token(kind_of(piece), piece, line, at - begin + 1))
        at = end
    found.append(Token("ending", "", line, at - begin + 1))
    return found


def end_of_piece(text, at):
    """Where what begins at a place of a text ends: a token, a blank, a remark."""
    if text[at] == "#":
        end = text.find("\n", at)
        return len(text) if end < 0 else end
    if text[at:at + 2] == "==":
        return at + 2
    end = at + 1
    if is_inner(text[at]):
        while end < len(text) and is_inner(text[end]):
            end += 1
    return end


def is_inner(sign):
    """Whether a sign is one of those that stand side by side in one token."""
    return sign in LETTERS or sign in DIGITS


def kind_of(piece):
    """The kind of a token."""
    if piece in RESERVED or piece == "==" or (len(piece) == 1 and piece in SIGNS):
        return piece
    if is_plain_word(piece):
        return "word"
    if is_number(piece):
        return "number"
    return "wrong"


def is_number(piece):
    """Whether a piece of text is a number as it may stand there."""
    if len(piece) > MOST_DIGITS or not all([sign in DIGITS for sign in piece]):
        return False
    return piece == "0" or piece[0] != "0"
