"""The blocks and edges of a program by their numbers, and the ways along them."""

from fewprobes.blocks import WAYS, edges_of, is_program
from fewprobes.errors import InvalidProgram

# The number of no block, no edge and no function.
NONE = -1


class Flow:
    """The functions, blocks and edges of a program, numbered from 0 as they stand."""

    def __init__(self, program):
        functions = program[1]
        self.edges = edges_of(program)
        self.edge_at = {edge: number for number, edge in enumerate(self.edges)}
        self.names = [name for name, parameters, blocks in functions]
        self.function_at = {name: f for f, name in enumerate(self.names)}
        self.blocks = [(name, block[0]) for name, parameters, blocks in functions for block in blocks]
        self.block_at = {block: number for number, block in enumerate(self.blocks)}
        self.firsts = [self.block_at[(name, blocks[0][0])] for name, parameters, blocks in functions]
        self.function_of = [self.function_at[name] for name, label in self.blocks]
        self.ends = [block[2] for name, parameters, blocks in functions for block in blocks]
        self.called = [called_function(self, end) for end in self.ends]
        self.ways = [ways_of(self, number) for number in range(len(self.blocks))]
        places = [(number, way) for number, end in enumerate(self.ends) for way, at in WAYS[end[0]]]
        self.number_at = {place: edge for edge, place in enumerate(places)}
        self.block_of = [number for number, way in places]
        self.way_of = [way for number, way in places]
        self.target_of = [target for ways in self.ways for way, target in ways]


def called_function(flow, end):
    """The number of the function that an end calls, NONE if it calls none."""
    if end[0] in ("call", "try"):
        return flow.function_at[end[2]]
    return NONE


def ways_of(flow, number):
    """The ways of a block, each with the block to which it leads, NONE if a function ends by it."""
    end = flow.ends[number]
    name, label = flow.blocks[number]
    found = []
    for way, at in WAYS[end[0]]:
        if way == "call":
            found.append((way, flow.firsts[flow.called[number]]))
        elif at is None:
            found.append((way, NONE))
        else:
            found.append((way, flow.block_at[(name, end[at])]))
    return found


def flow_of(program):
    """The flow of what is handed in as a program."""
    if not is_program(program):
        raise InvalidProgram(program)
    return Flow(program)


def edge_number(flow, value):
    """The number of an edge, NONE if a value is none."""
    return number_in(flow.edge_at, value)


def edge_numbers(flow, value):
    """The numbers of the edges in a list, None unless a value is a list of edges."""
    return numbers_in(flow.edge_at, value)


def number_in(table, value):
    """The number that a dict has for a tuple of words, NONE if a value is none of these."""
    # What is handed in may hold lists, which are no keys of a dict.
    if not isinstance(value, tuple) or not all([isinstance(word, str) for word in value]):
        return NONE
    return table.get(value, NONE)


def numbers_in(table, value):
    """The numbers that a dict has for the tuples of words in a list, None unless a value is a list of these."""
    if not isinstance(value, list):
        return None
    numbers = [number_in(table, item) for item in value]
    return None if NONE in numbers else numbers


class Walk:
    """How far a way through a program has come."""

    def __init__(self, flow):
        self.flow = flow
        self.calls = []
        self.here = flow.firsts[0]
        # "value" or "fault" when a called function has ended, but its caller has not gone on.
        self.due = ""

    def goes(self, number):
        """Goes along an edge; whether a way can go along it here."""
        way = self.flow.way_of[number]
        back = way if way in ("value", "fault") else ""
        if self.flow.block_of[number] != self.here or self.due != back:
            return False
        self.due = ""
        if way == "call":
            self.calls.append(self.here)
        self.here = self.flow.target_of[number]
        if self.here == NONE and self.calls:
            self.here = self.calls.pop()
            self.due = "value" if way == "return" else "fault"
        return True

    def stack(self):
        """The blocks whose calls go on, and last the one that is gone through next."""
        return [*self.calls, self.here] if self.here != NONE else []


def stack_of(flow, value):
    """The stack behind a way through a program, as numbers of blocks, None unless a value is such a way."""
    numbers = edge_numbers(flow, value)
    if numbers is None:
        return None
    walk = Walk(flow)
    for number in numbers:
        if not walk.goes(number):
            return None
    return walk.stack() if walk.due == "" else None
