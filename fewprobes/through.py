"""Ways through programs: which lists of edges are some, what stands behind them, and where they can end."""

from fewprobes.errors import InvalidList
from fewprobes.flow import flow_of, stack_of
from fewprobes.grammar import FAULT, VALUE, Grammar, all_moves, edges_of_move, endings_of, place_of


def is_way(program, value):
    """Whether a value is a way through a program, whole or not."""
    flow = flow_of(program)
    return stack_of(flow, value) is not None


def stack_behind(program, way):
    """The stack behind a way through a program."""
    flow = flow_of(program)
    stack = stack_of(flow, way)
    if stack is None:
        raise InvalidList(way)
    return [flow.blocks[number] for number in stack]


def leaves(program):
    """Each function's name, with whether it can end by a value, and whether by a fault."""
    flow = flow_of(program)
    endings = endings_of(all_moves(flow, False))
    found = []
    for name, first in zip(flow.names, flow.firsts):
        found.append((name, place_of(first, VALUE) in endings, place_of(first, FAULT) in endings))
    return found


def live_edges(program):
    """The edges that stand in some whole way through a program."""
    flow = flow_of(program)
    live = {}
    for move in Grammar(flow, False).moves:
        for number in edges_of_move(flow, move):
            live[number] = True
    return [edge for number, edge in enumerate(flow.edges) if number in live]
