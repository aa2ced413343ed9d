"""Plain kinds of values that the forms of sources and programs are made of."""

SIGNS = ("plus", "minus", "times", "over", "rest", "less", "same")


def is_whole(value):
    """Whether a value is a whole number; a Boolean is none."""
    return isinstance(value, int) and not isinstance(value, bool)


def is_count(value):
    """Whether a value is a whole number of at least 0."""
    return is_whole(value) and value >= 0


def are_whole(value):
    """Whether a value is a list of whole numbers."""
    return isinstance(value, list) and all([is_whole(number) for number in value])


def are_counts(value, many):
    """Whether a value is a list of so many counts."""
    return isinstance(value, list) and len(value) == many and all([is_count(number) for number in value])


def is_sign(value):
    """Whether a value is the name of a sign."""
    return isinstance(value, str) and value in SIGNS


def is_tuple_of(value, many):
    """Whether a value is a tuple of so many items."""
    return isinstance(value, tuple) and len(value) == many


def is_list_of(value, least, most):
    """Whether a value is a list with a number of items within these bounds."""
    return isinstance(value, list) and least <= len(value) <= most


def are_unlike(words):
    """Whether no word stands twice in a list of words."""
    return len(set(words)) == len(words)


def first_word(value):
    """The string with which a tuple begins, "" for whatever begins with none."""
    # Whatever is handed in may begin with a list, which is no key of a dict.
    if isinstance(value, tuple) and len(value) > 0 and isinstance(value[0], str):
        return value[0]
    return ""


def has_parts(value, kinds, is_part):
    """Whether a tuple has, behind its first item, just one part of each kind."""
    if len(value) != len(kinds) + 1:
        return False
    return all([is_part(part, kind) for part, kind in zip(value[1:], kinds)])
