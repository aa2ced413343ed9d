"""The moves that ways make, as the rules of a grammar whose signs are places, all by numbers."""

from fewprobes.errors import InvalidFlag
from fewprobes.flow import NONE, flow_of

LEAVINGS = ("value", "fault", "cut")
VALUE = 0
FAULT = 1
CUT = 2
PAUSES = ("waits", "stands")


class Move:
    """A way that is gone along at a place, or a pause there, and the places to which it leads."""

    def __init__(self, block, way, leaving, leads):
        self.block = block
        self.way = way
        self.leaving = leaving
        self.place = place_of(block, leaving)
        self.leads = leads


class Grammar:
    """The moves that ways which count make, and the places at which they are made."""

    def __init__(self, flow, cuts):
        self.flow = flow
        self.cuts = cuts
        self.mains = main_places(flow, cuts)
        self.moves = moves_of_ways(all_moves(flow, cuts), self.mains)
        self.places = sorted(set([move.place for move in self.moves]))
        self.move_at = {(move.place, move.way): number for number, move in enumerate(self.moves)}


def grammar_of(program, cuts):
    """The grammar of what is handed in as a program, with what is handed in as a flag."""
    flow = flow_of(program)
    check_flag(cuts)
    return Grammar(flow, cuts)


def check_flag(value):
    """Refuses whatever is neither True nor False."""
    if not isinstance(value, bool):
        raise InvalidFlag(value)


def main_places(flow, cuts):
    """The places at which ways begin that count."""
    return [place_of(flow.firsts[0], leaving) for leaving in range(how_many_leavings(cuts))]


def moves_of_ways(moves, mains):
    """Those of moves that some way makes which begins at one of these places and makes no others."""
    endings = endings_of(moves)
    ending = [move for move in moves if all([lead in endings for lead in move.leads])]
    reached = reached_from(mains, moves_at(ending))
    return [move for move in ending if move.place in reached]


def place_of(block, leaving):
    """The number of a place."""
    return len(LEAVINGS) * block + leaving


def how_many_leavings(cuts):
    """How many leavings ways have that count."""
    return len(LEAVINGS) if cuts else CUT


def all_moves(flow, cuts):
    """All moves in order, be there ways that make them or not."""
    found = []
    for block in range(len(flow.blocks)):
        for leaving in range(how_many_leavings(cuts)):
            for way, target in flow.ways[block]:
                leads = leads_of(flow, block, way, target, leaving)
                if leads is not None:
                    found.append(Move(block, way, leaving, leads))
            if leaving == CUT:
                found.extend(pauses_of(flow, block))
    return found


def leads_of(flow, block, way, target, leaving):
    """The places to which a way of a block leads, None if it is no move with this leaving."""
    if way == "call":
        return None
    leads = []
    if way in ("value", "fault"):
        first = flow.firsts[flow.called[block]]
        leads.append(place_of(first, VALUE if way == "value" else FAULT))
    if target != NONE:
        leads.append(place_of(target, leaving))
    elif leaving != (VALUE if way == "return" else FAULT):
        return None
    return leads


def pauses_of(flow, block):
    """The pauses at a block."""
    found = []
    if flow.called[block] != NONE:
        found.append(Move(block, "waits", CUT, [place_of(flow.firsts[flow.called[block]], CUT)]))
    found.append(Move(block, "stands", CUT, []))
    return found


def moves_at(moves):
    """The moves that are made at each place."""
    found = {}
    for move in moves:
        found.setdefault(move.place, []).append(move)
    return found


def endings_of(moves):
    """The places from which ways come to their end, each with a move that brings it nearer.

    They stand in an order in which each one's move leads to places ahead of it alone.
    """
    found = {}
    leading = {}
    missing = [len(set(move.leads)) for move in moves]
    for number, move in enumerate(moves):
        for lead in sorted(set(move.leads)):
            leading.setdefault(lead, []).append(number)
    ready = [number for number, move in enumerate(moves) if missing[number] == 0]
    while ready:
        coming = []
        for number in ready:
            place = moves[number].place
            if place in found:
                continue
            found[place] = moves[number]
            for other in leading.get(place, []):
                missing[other] -= 1
                if missing[other] == 0:
                    coming.append(other)
        ready = coming
    return found


def reached_from(places, by_place):
    """The places that can be come to from places through moves, each with the move that comes there first.

    Those from which all begins have None.
    """
    found = {place: None for place in places}
    waiting = list(places)
    while waiting:
        coming = []
        for place in waiting:
            for move in by_place.get(place, []):
                for lead in move.leads:
                    if lead not in found:
                        found[lead] = move
                        coming.append(lead)
        waiting = coming
    return found


def edges_of_move(flow, move):
    """The numbers of the edges of a move."""
    if move.way == "stands":
        return []
    if move.way == "waits":
        return [flow.number_at[(move.block, "call")]]
    own = flow.number_at[(move.block, move.way)]
    if move.way in ("value", "fault"):
        return [flow.number_at[(move.block, "call")], own]
    return [own]


def lefts_and_leds(grammar, counts):
    """How often each place is left, and how often led to, by moves that are made so often."""
    lefts = {place: 0 for place in grammar.places}
    leds = {place: 0 for place in grammar.places}
    for move, many in zip(grammar.moves, counts):
        lefts[move.place] += many
        for lead in move.leads:
            leds[lead] += many
    return lefts, leds
