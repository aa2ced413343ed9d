"""Two tallies that probes can't tell apart."""

from fewprobes.currents import Currents
from fewprobes.drawing import full_counts
from fewprobes.flow import NONE
from fewprobes.grammar import (
    CUT, FAULT, PAUSES, VALUE, Move, how_many_leavings, lefts_and_leds, moves_at, place_of, reached_from,
)
from fewprobes.ratios import lowest_whole


def parted_by(grammar, probes):
    """Two tallies with the same sums at probes and the same pauses, not at all edges; None if there are none."""
    currents = Currents(grammar)
    sums = unseen_sums(currents, probes)
    if sums is None:
        return None
    change = moved(grammar, currents.edges, sums)
    full = full_counts(grammar)
    often = how_often(grammar, full, change)
    one = [often * number for number in full]
    return (one, [number + more for number, more in zip(one, change)])


def how_often(grammar, full, change):
    """How often a full tally has to be taken so that it stays one with a change."""
    # What has to stay above 0: how often each move is made, and how many ways begin at each main place.
    pairs = list(zip(full, change))
    lefts, leds = lefts_and_leds(grammar, full)
    more_lefts, more_leds = lefts_and_leds(grammar, change)
    for place in grammar.mains:
        if place in lefts:
            pairs.append((lefts[place] - leds[place], more_lefts[place] - more_leds[place]))
    return max([1, *[0 - (more - 1) // number for number, more in pairs]])


def unseen_sums(currents, probes):
    """Whole numbers, not all 0, that keep the rules and are 0 at probes; None if there are none."""
    span = currents.span_of(probes)
    taken = {column: True for column, row in span.rows}
    free = [column for column in range(len(currents.edges)) if column not in taken]
    if not free:
        return None
    numbers = {column: (1 if column == free[0] else 0, 1) for column in free}
    found = span.solved(numbers)
    return lowest_whole([found[column] for column in range(len(currents.edges))])


def moved(grammar, edges, sums):
    """How often moves have to be made so that sums at edges that keep the rules come out of them.

    Sums and moves may be below 0. Each edge is gone with the base leaving of its
    function, if it can be. If not, what is gone along it has come to its block with
    the base leaving, and so the steps to this block are put over to the other one.
    """
    flow = grammar.flow
    counts = [0] * len(grammar.moves)
    onward = onward_moves(grammar)
    for number, many in zip(edges, sums):
        block = flow.block_of[number]
        way = flow.way_of[number]
        base = base_leaving(grammar, flow.function_of[block])
        leaving = leaving_with(grammar, block, way, base)
        counts[grammar.move_at[(place_of(block, leaving), way)]] += many
        if leaving != base and place_of(block, base) in onward:
            for move in steps_to(onward, place_of(block, leaving)):
                counts[grammar.move_at[(move.place, move.way)]] += many
                counts[grammar.move_at[(place_of(move.block, base), move.way)]] -= many
    return counts


def base_leaving(grammar, function):
    """The leaving with which each move of a function is made that can be made with it."""
    if grammar.cuts:
        return CUT
    return VALUE if place_of(grammar.flow.firsts[function], VALUE) in grammar.places else FAULT


def leaving_with(grammar, block, way, base):
    """The leaving with which a way of a block is gone, the base one if it can be."""
    for leaving in (base, VALUE):
        if (place_of(block, leaving), way) in grammar.move_at:
            return leaving
    return FAULT


def onward_moves(grammar):
    """For each place the move of the same call that comes there first, None for first blocks."""
    moves = []
    for move in grammar.moves:
        if move.way not in PAUSES and grammar.flow.target_of[grammar.flow.number_at[(move.block, move.way)]] != NONE:
            # The last place to which a move leads is the one that goes on in the same call.
            moves.append(Move(move.block, move.way, move.leaving, move.leads[-1:]))
    many = how_many_leavings(grammar.cuts)
    firsts = [place_of(first, leaving) for first in grammar.flow.firsts for leaving in range(many)]
    return reached_from([place for place in firsts if place in grammar.places], moves_at(moves))


def steps_to(onward, place):
    """The moves of a call from its first block up to a place."""
    found = []
    move = onward[place]
    while move is not None:
        found.append(move)
        move = onward[move.place]
    return found
