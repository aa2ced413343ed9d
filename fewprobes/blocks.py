"""Programs of blocks: their form, their edges, and where these lead."""

from fewprobes.errors import InvalidEdge, InvalidProgram
from fewprobes.kinds import first_word, has_parts, is_list_of, is_sign, is_tuple_of, is_whole
from fewprobes.words import MOST_PARAMETERS, are_parameters, is_word

MOST_FUNCTIONS = 8
MOST_BLOCKS = 160
GREATEST_COUNTER = 999

STEPS = {
    "set": ("word", "number"),
    "copy": ("word", "word"),
    "deed": ("word", "sign", "word", "word"),
    "read": ("word",),
    "print": ("word",),
    "count": ("counter",),
}

ENDS = {
    "go": ("word",),
    "test": ("word", "word", "word"),
    "call": ("word", "word", "names", "word"),
    "try": ("word", "word", "names", "word", "word", "word"),
    "return": ("word",),
    "raise": ("word",),
}

# The ways of each end, in the order of edges, each with the place in the end of
# the label to which it leads; None where it leads to no label of the end.
WAYS = {
    "go": (("go", 1),),
    "test": (("yes", 2), ("no", 3)),
    "call": (("call", None), ("value", 4), ("fault", None)),
    "try": (("call", None), ("value", 4), ("fault", 6)),
    "return": (("return", None),),
    "raise": (("raise", None),),
}


def is_program(value):
    """Whether a value is a program."""
    return first_wrong(value) is None


def first_wrong(value):
    """The place and the reason of what is first wrong in a value, None if it is a program."""
    if not is_tuple_of(value, 2) or value[0] != "program" or not is_list_of(value[1], 1, MOST_FUNCTIONS):
        return ((), "form")
    wrong = first_wrong_form(value[1])
    if wrong is None:
        wrong = first_wrong_end(value[1])
    return wrong


def first_wrong_form(functions):
    """The first place in functions that has a wrong form or stands twice, with the reason."""
    names = set()
    for f, function in enumerate(functions):
        if not is_function(function):
            return ((f,), "form")
        if function[0] in names:
            return ((f,), "twice")
        names.add(function[0])
        wrong = first_wrong_block(f, function[2])
        if wrong is not None:
            return wrong
    return None


def is_function(value):
    """Whether a value has the form of a function, whatever its blocks are."""
    if not is_tuple_of(value, 3):
        return False
    name, parameters, blocks = value
    return is_word(name) and are_parameters(parameters, is_word) and is_list_of(blocks, 1, MOST_BLOCKS)


def first_wrong_block(f, blocks):
    """The first place in the blocks of the function f that has a wrong form or stands twice."""
    labels = set()
    for b, block in enumerate(blocks):
        if not is_block(block):
            return ((f, b), "form")
        if block[0] in labels:
            return ((f, b), "twice")
        labels.add(block[0])
        label, steps, end = block
        s = first_wrong_step(steps, end)
        if s is not None:
            return ((f, b, s), "form")
    return None


def is_block(value):
    """Whether a value has the form of a block, whatever its steps and its end are."""
    if not is_tuple_of(value, 3):
        return False
    label, steps, end = value
    return is_word(label) and isinstance(steps, list) and isinstance(end, tuple)


def first_wrong_step(steps, end):
    """The number of the first step without a right form, that of all steps for the end, or None."""
    for s, step in enumerate(steps):
        if not is_step(step):
            return s
    if not is_end(end):
        return len(steps)
    return None


def is_step(value):
    """Whether a value has the form of a step."""
    kinds = STEPS.get(first_word(value))
    return kinds is not None and has_parts(value, kinds, is_part)


def is_end(value):
    """Whether a value has the form of an end."""
    kinds = ENDS.get(first_word(value))
    return kinds is not None and has_parts(value, kinds, is_part)


def is_part(value, kind):
    """Whether a value is of a kind that stands in steps and ends."""
    if kind == "number":
        return is_whole(value)
    if kind == "counter":
        return is_whole(value) and 0 <= value <= GREATEST_COUNTER
    if kind == "sign":
        return is_sign(value)
    if kind == "names":
        return are_names(value)
    return is_word(value)


def are_names(value):
    """Whether a value is a tuple of as many names as a call may hand over."""
    if not isinstance(value, tuple) or len(value) > MOST_PARAMETERS:
        return False
    return all([is_word(name) for name in value])


def first_wrong_end(functions):
    """The place of the first end in functions of right form that names what does not fit."""
    many = {function[0]: len(function[1]) for function in functions}
    for f, function in enumerate(functions):
        labels = {block[0]: True for block in function[2]}
        for b, block in enumerate(function[2]):
            label, steps, end = block
            reason = why_unfit(end, labels, many)
            if reason is not None:
                return ((f, b, len(steps)), reason)
    return None


def why_unfit(end, labels, many):
    """Why an end does not fit among labels and functions with so many parameters, or None."""
    for label in labels_of(end):
        if label not in labels:
            return "label"
    if end[0] not in ("call", "try"):
        return None
    if end[2] not in many:
        return "function"
    if len(end[3]) != many[end[2]]:
        return "arguments"
    return None


def labels_of(end):
    """The labels in an end."""
    return [end[at] for way, at in WAYS[end[0]] if at is not None]


def edges(program):
    """All edges of a program."""
    if not is_program(program):
        raise InvalidProgram(program)
    return edges_of(program)


def edges_of(program):
    """The edges of what is a program."""
    found = []
    for name, parameters, blocks in program[1]:
        for label, steps, end in blocks:
            for way, at in WAYS[end[0]]:
                found.append((name, label, way))
    return found


def led_to(program, edge):
    """The function and the label of the block to which an edge leads, None if a function ends."""
    if not is_program(program):
        raise InvalidProgram(program)
    if edge not in edges_of(program):
        raise InvalidEdge(edge)
    name, label, way = edge
    end = end_of(program, name, label)
    if way == "call":
        return (end[2], first_label(program, end[2]))
    at = label_place(end, way)
    if at is None:
        return None
    return (name, end[at])


def end_of(program, name, label):
    """The end of the block of a program that has this label in the function of this name."""
    ends = {block[0]: block[2] for block in blocks_of(program, name)}
    return ends[label]


def first_label(program, name):
    """The label of the block where a function of a program begins."""
    return blocks_of(program, name)[0][0]


def blocks_of(program, name):
    """The blocks of the function of a program that has this name."""
    blocks = {function[0]: function[2] for function in program[1]}
    return blocks[name]


def label_place(end, way):
    """The place in an end of the label to which a way of it leads, None if it leads to none."""
    places = {other: at for other, at in WAYS[end[0]]}
    return places[way]
