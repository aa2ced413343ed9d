"""Sources: the form of their functions, statements and expressions."""

from fewprobes.errors import InvalidProgram
from fewprobes.kinds import are_unlike, first_word, has_parts, is_count, is_list_of, is_sign, is_tuple_of
from fewprobes.words import MOST_PARAMETERS, are_parameters, is_plain_word

MOST_FUNCTIONS = 8
MOST_STATEMENTS = 39

STATEMENTS = {
    "set": ("word", "expression"),
    "read": ("word",),
    "print": ("expression",),
    "call": ("word", "word", "given"),
    "if": ("expression", "rows", "rows"),
    "while": ("expression", "rows"),
    "try": ("rows", "word", "rows"),
    "leave": (),
    "again": (),
    "return": ("expression",),
    "raise": ("expression",),
}

# Where the lists of statements stand within a statement.
ROWS_AT = {"if": (2, 3), "while": (2,), "try": (1, 3)}


def is_source(value):
    """Whether a value is a source."""
    if not is_tuple_of(value, 2) or value[0] != "source" or not is_list_of(value[1], 1, MOST_FUNCTIONS):
        return False
    functions = value[1]
    if not all([is_function(function) for function in functions]):
        return False
    if not are_unlike([function[0] for function in functions]):
        return False
    many = {function[0]: len(function[1]) for function in functions}
    return all([are_right_rows(function[2], many) for function in functions])


def is_function(value):
    """Whether a value has the form of a function, whatever its statements are."""
    if not is_tuple_of(value, 3):
        return False
    name, parameters, rows = value
    return is_plain_word(name) and are_parameters(parameters, is_plain_word) and isinstance(rows, list)


def are_right_rows(rows, many):
    """Whether the rows of a function are statements of a source whose functions have so many parameters."""
    # Lists that wait are looked at in any order: only whether all are right counts.
    waiting = [(rows, False)]
    total = 0
    while waiting:
        held, looped = waiting.pop()
        total += len(held)
        if total > MOST_STATEMENTS:
            return False
        for statement in held:
            if not is_statement(statement, many, looped):
                return False
            inner_looped = looped or statement[0] == "while"
            waiting.extend([(inner, inner_looped) for inner in rows_within(statement)])
    return True


def is_statement(value, many, looped):
    """Whether a value is a statement, whatever stands in its rows; looped tells of a while around it."""
    word = first_word(value)
    kinds = STATEMENTS.get(word)
    if kinds is None or not has_parts(value, kinds, is_part):
        return False
    if word in ("leave", "again"):
        return looped
    if word == "call":
        return value[2] in many and len(value[3]) == many[value[2]]
    return True


def is_part(value, kind):
    """Whether a value is of a kind that stands in statements."""
    if kind == "word":
        return is_plain_word(value)
    if kind == "expression":
        return is_expression(value)
    if kind == "given":
        return are_given(value)
    return isinstance(value, list)


def are_given(value):
    """Whether a value is a list of as many expressions as a call may hand over."""
    if not is_list_of(value, 0, MOST_PARAMETERS):
        return False
    return all([is_expression(expression) for expression in value])


def is_expression(value):
    """Whether a value is an expression."""
    waiting = [value]
    while waiting:
        part = waiting.pop()
        if is_tuple_of(part, 3) and is_sign(part[0]):
            waiting.extend(part[1:])
        elif not is_single(part):
            return False
    return True


def is_single(value):
    """Whether a value is an expression of a number or a name alone."""
    if not is_tuple_of(value, 2):
        return False
    if value[0] == "number":
        return is_count(value[1])
    return value[0] == "name" and is_plain_word(value[1])


def rows_within(statement):
    """The lists of statements that stand within a statement, as they stand."""
    return [statement[at] for at in ROWS_AT.get(statement[0], ())]


def how_many_statements(source):
    """How many statements a source has, those within others counted, too."""
    if not is_source(source):
        raise InvalidProgram(source)
    return sum([how_many_in(function[2]) for function in source[1]])


def how_many_in(rows):
    """How many statements stand in rows and within these."""
    waiting = [rows]
    total = 0
    while waiting:
        held = waiting.pop()
        total += len(held)
        for statement in held:
            waiting.extend(rows_within(statement))
    return total
