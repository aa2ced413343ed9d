"""The marks of ways by their numbers, and which of them ways have that do without others."""

from fewprobes.errors import InvalidEdge, InvalidList
from fewprobes.flow import NONE, number_in, numbers_in
from fewprobes.grammar import PAUSES, all_moves, edges_of_move, main_places, moves_of_ways
from fewprobes.kinds import are_unlike


class Marks:
    """All marks of a program, numbered from 0 in their order; those of edges have the numbers of the edges."""

    def __init__(self, flow):
        self.flow = flow
        self.rows = list(flow.edges)
        self.pause_at = {}
        for block, (name, label) in enumerate(flow.blocks):
            for pause in PAUSES:
                if pause == "stands" or flow.called[block] != NONE:
                    self.pause_at[(block, pause)] = len(self.rows)
                    self.rows.append((name, label, pause))
        self.mark_at = {mark: number for number, mark in enumerate(self.rows)}

    def told(self, numbers):
        """The set of the marks with these numbers, in their order."""
        return [self.rows[number] for number in sorted(numbers)]

    def pauses(self):
        """The numbers of all marks that are no edges."""
        return list(range(len(self.flow.edges), len(self.rows)))

    def of_move(self, move):
        """The numbers of the marks that a way has by a move."""
        found = edges_of_move(self.flow, move)
        if move.way in PAUSES:
            found.append(self.pause_at[(move.block, move.way)])
        return found


def mark_number(known, mark):
    """The number of what is handed in as a mark."""
    number = number_in(known.mark_at, mark)
    if number == NONE:
        raise InvalidEdge(mark)
    return number


def mark_set(known, value):
    """The numbers of the marks of what is handed in as a set of marks."""
    numbers = set_numbers(known, value)
    if numbers is None:
        raise InvalidList(value)
    return numbers


def set_numbers(known, value):
    """The numbers of the marks in a list, None unless a value is a set of marks."""
    numbers = numbers_in(known.mark_at, value)
    return numbers if numbers is not None and are_unlike(numbers) else None


class Trails:
    """The moves of all ways that count, each with the numbers of its marks."""

    def __init__(self, known, cuts):
        self.known = known
        self.mains = main_places(known.flow, cuts)
        self.moves = moves_of_ways(all_moves(known.flow, cuts), self.mains)
        self.marked = [known.of_move(move) for move in self.moves]

    def without(self, gone):
        """The moves of all ways that count and have none of these marks."""
        barred = {number: True for number in gone}
        left = []
        for move, marked in zip(self.moves, self.marked):
            if not any([number in barred for number in marked]):
                left.append(move)
        return moves_of_ways(left, self.mains)

    def live(self, gone):
        """The numbers of the marks of all ways that count and have none of these marks, as a dict of True."""
        found = {}
        for move in self.without(gone):
            for number in self.known.of_move(move):
                found[number] = True
        return found
