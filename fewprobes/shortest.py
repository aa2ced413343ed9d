"""The shortest ways that have a mark, among those that make some moves and no others."""

from heapq import heappop, heappush

from fewprobes.flow import NONE
from fewprobes.grammar import edges_of_move

MOST_EDGES = 20000


class Shortest:
    """Moves that ways make which make no others, and the shortest such ways.

    Lengths may be very much greater than what can be spelled: calls within calls may need so many edges.
    """

    def __init__(self, known, mains, moves):
        self.flow = known.flow
        self.moves = moves
        self.lengths = [len(edges_of_move(self.flow, move)) for move in moves]
        # For each place the length from there to the end of what it stands for, and the first move.
        self.lasts = shortest_lasts(moves, self.lengths)
        # For each move the length from it to the ends of all to which it leads.
        self.wholes = [length + self.length_of(move.leads) for length, move in zip(self.lengths, moves)]
        # For each place the length of what a way through it has beside, with the move by which
        # it is come to, and which of those is it to which that leads.
        self.comings = shortest_comings(moves, mains, self.wholes, self.lasts)
        # For each mark the length of the shortest way that has it, and the move by which it has it.
        self.best = {}
        for number, move in enumerate(moves):
            length = self.comings[move.place][0] + self.wholes[number]
            for mark in known.of_move(move):
                if mark not in self.best or length < self.best[mark][0]:
                    self.best[mark] = (length, number)
        # For each place the edges of the shortest way from there to its end, as far as they were asked for.
        self.words = {}

    def length_of(self, places):
        """The length of the shortest ways from places to their ends."""
        return sum([self.lasts[place][0] for place in places])

    def way_with(self, mark):
        """The edges of a shortest way that has a mark."""
        number = self.best[mark][1]
        word = self.spelled(number, self.words_of(number))
        length, above, side = self.comings[self.moves[number].place]
        while above != NONE:
            words = self.words_of(above)
            words[side] = word
            word = self.spelled(above, words)
            length, above, side = self.comings[self.moves[above].place]
        return word

    def words_of(self, number):
        """The edges of the shortest ways from the places to which a move leads to their ends."""
        return [self.word_of(lead) for lead in self.moves[number].leads]

    def word_of(self, place):
        """The edges of the shortest way from a place to its end."""
        waiting = [place]
        while waiting:
            number = self.lasts[waiting[-1]][1]
            missing = [lead for lead in self.moves[number].leads if lead not in self.words]
            if missing:
                waiting.extend(missing)
            else:
                self.words[waiting.pop()] = self.spelled(number, [self.words[at] for at in self.moves[number].leads])
        return self.words[place]

    def spelled(self, number, words):
        """The edges of a move, and among them those behind it at the places to which it leads."""
        edges = [self.flow.edges[edge] for edge in edges_of_move(self.flow, self.moves[number])]
        found = []
        # Behind a call stands what is gone through in it, and only then the other edge of the block.
        for at in range(max(len(edges), len(words))):
            found.extend(edges[at:at + 1])
            if at < len(words):
                found.extend(words[at])
        return found


def shortest_lasts(moves, lengths):
    """For each place the length of the shortest way from there to its end, and the number of its first move.

    They stand in an order in which each one's move leads to places ahead of it alone.
    """
    leading = {}
    missing = [len(set(move.leads)) for move in moves]
    queue = []
    for number, move in enumerate(moves):
        for lead in sorted(set(move.leads)):
            leading.setdefault(lead, []).append(number)
        if missing[number] == 0:
            heappush(queue, (lengths[number], move.place, number))
    found = {}
    while queue:
        length, place, number = heappop(queue)
        if place in found:
            continue
        found[place] = (length, number)
        for other in leading.get(place, []):
            missing[other] -= 1
            if missing[other] == 0:
                behind = sum([found[lead][0] for lead in moves[other].leads])
                heappush(queue, (lengths[other] + behind, moves[other].place, other))
    return found


def shortest_comings(moves, mains, wholes, lasts):
    """For each place the least length of what stands around it in a way, with the move that leads there.

    Behind the number of the move, NONE for a place at which ways begin, stands which of its leads it is.
    """
    by_place = {}
    for number, move in enumerate(moves):
        by_place.setdefault(move.place, []).append(number)
    found = {}
    queue = []
    for place in mains:
        heappush(queue, (0, place, NONE, NONE))
    while queue:
        length, place, above, side = heappop(queue)
        if place in found:
            continue
        found[place] = (length, above, side)
        for number in by_place.get(place, []):
            for at, lead in enumerate(moves[number].leads):
                heappush(queue, (length + wholes[number] - lasts[lead][0], lead, number, at))
    return found
