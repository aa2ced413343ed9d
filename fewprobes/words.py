"""Words: the names of functions, labels, parameters and numbers."""

from fewprobes.kinds import are_unlike, is_list_of

MOST_LETTERS = 30
MOST_PARAMETERS = 6
RESERVED = (
    "again", "call", "catch", "else", "fun", "if", "leave", "over",
    "print", "raise", "read", "rest", "return", "try", "while",
)


def is_word(value):
    """Whether a value is a word."""
    return isinstance(value, str) and has_word_signs(value) and value not in RESERVED


def has_word_signs(text):
    """Whether a string is of small letters and digits, as many as a word has, the first a letter."""
    if not 1 <= len(text) <= MOST_LETTERS:
        return False
    # Signs beyond ASCII may be letters, too, but not those of a word.
    return text.isascii() and text.isalnum() and text == text.lower() and text[0].isalpha()


def is_plain_word(value):
    """Whether a value is a word without digits."""
    return is_word(value) and value.isalpha()


def are_parameters(value, is_name):
    """Whether a value is a list of as many unlike names as a function may have parameters."""
    if not is_list_of(value, 0, MOST_PARAMETERS):
        return False
    return all([is_name(name) for name in value]) and are_unlike(value)
