"""Moves of ways, and tallies that tell how often lists of ways make them."""

from fewprobes.drawing import drawn_ways, full_counts
from fewprobes.errors import InvalidList, InvalidProfile
from fewprobes.flow import edge_numbers, stack_of
from fewprobes.grammar import (
    CUT, FAULT, LEAVINGS, VALUE, edges_of_move, grammar_of, lefts_and_leds, moves_at, place_of, reached_from,
)
from fewprobes.kinds import are_counts


def moves(program, cuts):
    """Each move that ways make that count, and the places to which it leads."""
    grammar = grammar_of(program, cuts)
    found = []
    for move in grammar.moves:
        name, label = grammar.flow.blocks[move.block]
        led = [told_place(grammar, lead) for lead in move.leads]
        found.append(((name, label, move.way, LEAVINGS[move.leaving]), led))
    return found


def way_places(program, cuts):
    """The places at which ways make moves that count."""
    grammar = grammar_of(program, cuts)
    return [told_place(grammar, place) for place in grammar.places]


def told_place(grammar, place):
    """The tuple of a place."""
    block, leaving = divmod(place, len(LEAVINGS))
    name, label = grammar.flow.blocks[block]
    return (name, label, LEAVINGS[leaving])


def tally(program, ways, cuts):
    """How often a list of ways makes each move."""
    grammar = grammar_of(program, cuts)
    if not isinstance(ways, list) or not all([counts_as_way(grammar, way) for way in ways]):
        raise InvalidList(ways)
    found = [0] * len(grammar.moves)
    for way in ways:
        for number in moves_made(grammar, way):
            found[number] += 1
    return found


def counts_as_way(grammar, value):
    """Whether a value is a way that counts."""
    stack = stack_of(grammar.flow, value)
    return stack is not None and (grammar.cuts or not stack)


def moves_made(grammar, way):
    """The numbers of the moves that a way makes, in any order."""
    flow = grammar.flow
    found = []
    # Which leaving the moves of a call have is known only when it ends.
    calls = [[]]
    for number in edge_numbers(flow, way):
        block = flow.block_of[number]
        step = flow.way_of[number]
        if step == "call":
            calls.append([])
            continue
        calls[-1].append((block, step))
        if step in ("return", "raise") or (step == "fault" and flow.ends[block][0] == "call"):
            leaving = VALUE if step == "return" else FAULT
            found.extend(moves_with(grammar, calls.pop(), leaving))
    stack = stack_of(flow, way)
    for steps in calls:
        found.extend(moves_with(grammar, steps, CUT))
    found.extend(moves_with(grammar, [(block, "waits") for block in stack[:-1]], CUT))
    found.extend(moves_with(grammar, [(block, "stands") for block in stack[-1:]], CUT))
    return found


def moves_with(grammar, steps, leaving):
    """The numbers of the moves with a leaving, told by tuples of a block and a way."""
    return [grammar.move_at[(place_of(block, leaving), way)] for block, way in steps]


def edge_counts(program, counts, cuts):
    """How often each edge is gone with moves that are made so often."""
    grammar = grammar_of(program, cuts)
    check_counts(grammar, counts)
    return edge_sums(grammar, counts)


def edge_sums(grammar, counts):
    """How often each edge is gone with moves that are made so often."""
    found = [0] * len(grammar.flow.edges)
    for move, many in zip(grammar.moves, counts):
        for number in edges_of_move(grammar.flow, move):
            found[number] += many
    return found


def check_counts(grammar, counts):
    """Refuses whatever is no list of a count for each move."""
    if not are_counts(counts, len(grammar.moves)):
        raise InvalidList(counts)


def misfit(program, counts, cuts):
    """The first place at which counts are those of no list of ways, with the reason, None if there is none."""
    grammar = grammar_of(program, cuts)
    check_counts(grammar, counts)
    found = first_misfit(grammar, counts)
    if found is None:
        return None
    place, reason = found
    return (told_place(grammar, place), reason)


def first_misfit(grammar, counts):
    """The number of the first place at which counts do not fit, with the reason, None if there is none."""
    lefts, leds = lefts_and_leds(grammar, counts)
    begins = []
    for place in grammar.places:
        more = lefts[place] - leds[place]
        if more < 0 or (more > 0 and place not in grammar.mains):
            return (place, "balance")
        if more > 0:
            begins.append(place)
    made = [move for move, many in zip(grammar.moves, counts) if many > 0]
    reached = reached_from(begins, moves_at(made))
    for place in grammar.places:
        if lefts[place] > 0 and place not in reached:
            return (place, "apart")
    return None


def is_tally(program, value, cuts):
    """Whether a value is the tally of some list of ways that count."""
    return fits(grammar_of(program, cuts), value)


def fits(grammar, value):
    """Whether a value is the tally of some list of ways that count."""
    return are_counts(value, len(grammar.moves)) and first_misfit(grammar, value) is None


def drawn_up(program, counts, cuts):
    """A list of ways with a tally."""
    grammar = grammar_of(program, cuts)
    if not fits(grammar, counts):
        raise InvalidProfile(counts)
    return drawn_ways(grammar, counts)


def full_tally(program, cuts):
    """A tally in which each move is made."""
    return full_counts(grammar_of(program, cuts))
