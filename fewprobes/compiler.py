"""Sources made into programs of blocks, and what ways and profiles of these tell of the statements."""

from fewprobes.blocks import labels_of
from fewprobes.errors import InvalidList, InvalidProgram
from fewprobes.flow import Flow, stack_of
from fewprobes.layout import END, NO_STATEMENT, Layout
from fewprobes.profiles import check_profile, passes_of
from fewprobes.sources import is_source

# The statements behind which the next one stands in the same block.
STEADY = ("set", "read", "print")


def compiled(source):
    """The program of blocks that does what a source does."""
    return program_of(layout_of(source))


def places(source):
    """The function and the label of the block in which each statement stands."""
    return places_of(layout_of(source))


def statements_gone(source, way):
    """The statements in the blocks that a way through the compiled program has gone through."""
    layout = layout_of(source)
    flow = Flow(program_of(layout))
    if stack_of(flow, way) is None:
        raise InvalidList(way)
    standing = {}
    for number, place in enumerate(places_of(layout)):
        standing.setdefault(place, []).append(number)
    found = []
    for edge in way:
        if edge[2] not in ("value", "fault"):
            found.extend(standing.get(edge[:2], []))
    return found


def statement_counts(source, profile):
    """How often each statement was begun in the runs of a profile of the compiled program."""
    layout = layout_of(source)
    flow = Flow(program_of(layout))
    check_profile(flow, profile)
    gone = passes_of(flow, profile)
    return [gone[flow.block_at[place]] for place in places_of(layout)]


def layout_of(source):
    """The layout of what is handed in as a source."""
    if not is_source(source):
        raise InvalidProgram(source)
    return Layout(source)


def opens(stand):
    """Whether a statement opens a block."""
    return stand.ahead not in STEADY or stand.statement[0] == "while"


def places_of(layout):
    """The function and the label of the block in which each statement stands."""
    found = []
    label = ""
    for stand in layout.stands:
        if opens(stand):
            label = label_of(stand.number)
        found.append((layout.names[stand.function], label))
    return found


def label_of(number):
    """The label of the block that a statement opens."""
    return "end" if number == END else f"s{number}"


def program_of(layout):
    """The compiled program."""
    groups = [[] for _ in layout.names]
    for stand in layout.stands:
        held = groups[stand.function]
        if opens(stand):
            held.append([])
        held[-1].append(stand)
    functions = []
    for name, held in zip(layout.names, groups):
        blocks = [block_of(layout, group) for group in held]
        if not blocks or any(["end" in labels_of(end) for label, steps, end in blocks]):
            blocks.append(("end", [("set", "t0", 0)], ("return", "t0")))
        functions.append((name, layout.parameters[name], blocks))
    return ("program", functions)


def block_of(layout, group):
    """The block of statements that stand in one."""
    steps = []
    for stand in group:
        steps.extend(steps_of(layout, stand))
    return (label_of(group[0].number), steps, end_of(layout, group[-1]))


def steps_of(layout, stand):
    """The steps of a statement."""
    statement = stand.statement
    word = statement[0]
    if word == "set":
        return steps_into(statement[1], statement[2], 0)
    if word == "read":
        return [("read", statement[1])]
    if word == "print":
        return [*steps_into("t0", statement[1], 0), ("print", "t0")]
    if word == "call":
        steps = []
        for depth, expression in enumerate(statement[3]):
            steps.extend(steps_into(f"t{depth}", expression, depth))
        return steps
    if word == "raise" and stand.catcher != NO_STATEMENT:
        return steps_into(caught_in(layout, stand), statement[1], 0)
    if word in ("if", "while", "return", "raise"):
        return steps_into("t0", statement[1], 0)
    return []


def steps_into(name, expression, depth):
    """The steps that put an expression into a name at a depth."""
    steps = []
    waiting = [(name, expression, depth)]
    while waiting:
        into, part, at = waiting.pop()
        if part[0] == "number":
            steps.append(("set", into, part[1]))
        elif part[0] == "name":
            steps.append(("copy", into, part[1]))
        elif part[0] == "deed":
            steps.append(part)
        else:
            left = f"t{at}"
            right = f"t{at + 1}"
            waiting.append((into, ("deed", into, part[0], left, right), at))
            waiting.append((right, part[2], at + 1))
            waiting.append((left, part[1], at))
    return steps


def caught_in(layout, stand):
    """The name into which the innermost try around puts a fault."""
    return layout.stands[stand.catcher].statement[2]


def end_of(layout, stand):
    """The end of a block whose last statement this is."""
    statement = stand.statement
    word = statement[0]
    behind = label_of(stand.behind)
    if word == "if":
        return ("test", "t0", label_of(stand.rows), label_of(stand.others))
    if word == "while":
        return ("test", "t0", label_of(stand.rows), behind)
    if word == "call":
        return call_of(layout, stand, behind)
    if word == "try":
        return ("go", label_of(stand.rows))
    if word == "leave":
        return ("go", label_of(layout.stands[stand.loop].behind))
    if word == "again":
        return ("go", label_of(stand.loop))
    if word == "raise" and stand.catcher != NO_STATEMENT:
        return ("go", label_of(layout.stands[stand.catcher].others))
    if word in ("return", "raise"):
        return (word, "t0")
    return ("go", behind)


def call_of(layout, stand, behind):
    """The end of a block whose last statement calls a function."""
    word, into, name, given = stand.statement
    names = tuple([f"t{depth}" for depth in range(len(given))])
    if stand.catcher == NO_STATEMENT:
        return ("call", into, name, names, behind)
    others = label_of(layout.stands[stand.catcher].others)
    return ("try", into, name, names, behind, caught_in(layout, stand), others)
