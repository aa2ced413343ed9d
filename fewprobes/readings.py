"""Texts of sources: what they tell, where they are wrong, and how they are written."""

from fewprobes.errors import InvalidProgram, InvalidText
from fewprobes.sources import is_source
from fewprobes.tables import Reading

# How each sign is written, how tightly it holds, and how tightly what stands on its left and on its right must.
WRITTEN = {
    "less": ("<", 0, 1, 1),
    "same": ("==", 0, 1, 1),
    "plus": ("+", 1, 1, 2),
    "minus": ("-", 1, 1, 2),
    "times": ("*", 2, 2, 3),
    "over": ("over", 2, 2, 3),
    "rest": ("rest", 2, 2, 3),
}


def read_source(text):
    """The tuple that a text tells."""
    return right_reading(text).kept[0]


def lines(text):
    """The lines in which the statements of a text begin."""
    return right_reading(text).lines


def wrong_at(text):
    """The line and the column of the first wrong token of a text, None if there is none."""
    if not isinstance(text, str):
        raise InvalidText(text)
    return Reading(text).wrong


def right_reading(text):
    """The reading of a text that follows the table."""
    if not isinstance(text, str):
        raise InvalidText(text)
    reading = Reading(text)
    if reading.wrong is not None:
        raise InvalidText(reading.wrong)
    return reading


def written(source):
    """The text of a source."""
    if not is_source(source):
        raise InvalidProgram(source)
    found = []
    for name, parameters, rows in source[1]:
        names = ", ".join(parameters)
        found.append(f"fun {name}({names}) " + "{")
        found.extend(written_rows(rows))
        found.append("}")
    return "".join([line + "\n" for line in found])


def written_rows(rows):
    """The lines of rows, two blanks ahead of each."""
    found = []
    for statement in rows:
        found.extend(["  " + line for line in written_statement(statement)])
    return found


def written_statement(statement):
    """The lines of a statement."""
    word = statement[0]
    if word == "if":
        found = [f"if {told(statement[1])} " + "{", *written_rows(statement[2])]
        if statement[3]:
            found.extend(["} else {", *written_rows(statement[3])])
        return [*found, "}"]
    if word == "while":
        return [f"while {told(statement[1])} " + "{", *written_rows(statement[2]), "}"]
    if word == "try":
        behind = "} catch " + statement[2] + " {"
        return ["try {", *written_rows(statement[1]), behind, *written_rows(statement[3]), "}"]
    return [written_line(statement) + ";"]


def written_line(statement):
    """The line of a statement without rows, but for the semicolon."""
    word = statement[0]
    if word == "set":
        return f"{statement[1]} = {told(statement[2])}"
    if word == "call":
        given = ", ".join([told(expression) for expression in statement[3]])
        return f"{statement[1]} = call {statement[2]}({given})"
    if word == "read":
        return f"read {statement[1]}"
    if word in ("print", "return", "raise"):
        return f"{word} {told(statement[1])}"
    return word


def told(expression):
    """The text of an expression."""
    found = []
    waiting = [(expression, 0)]
    while waiting:
        part, hold = waiting.pop()
        if isinstance(part, str):
            found.append(part)
        elif len(part) == 2:
            found.append(str(part[1]))
        else:
            sign, own, left, right = WRITTEN[part[0]]
            pieces = [(part[1], left), (f" {sign} ", 0), (part[2], right)]
            if own < hold:
                pieces = [("(", 0), *pieces, (")", 0)]
            waiting.extend(pieces[::-1])
    return "".join(found)
