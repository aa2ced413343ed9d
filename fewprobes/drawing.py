"""Ways that are drawn up from tallies, and tallies that make each move."""

from fewprobes.grammar import endings_of, lefts_and_leds, moves_at, reached_from


class Node:
    """A move that is made at a place, with what is made at the places to which it leads."""

    def __init__(self):
        self.move = None
        self.inner = []


def drawn_ways(grammar, counts):
    """A list of ways with these counts, which are a tally."""
    lefts, leds = lefts_and_leds(grammar, counts)
    roots = []
    # At each place the nodes whose moves are not chosen yet.
    waiting = {place: [] for place in grammar.places}
    for place in grammar.places:
        for _ in range(lefts[place] - leds[place]):
            node = Node()
            roots.append(node)
            waiting[place].append(node)
    rest = {number: many for number, many in enumerate(counts) if many > 0}
    while rest:
        number = chosen(grammar, rest, waiting)
        move = grammar.moves[number]
        rest[number] -= 1
        if rest[number] == 0:
            del rest[number]
        node = waiting[move.place].pop()
        node.move = move
        for lead in move.leads:
            inner = Node()
            node.inner.append(inner)
            waiting[lead].append(inner)
    return [way_of(grammar.flow, root) for root in roots]


def chosen(grammar, rest, waiting):
    """The number of a move that is made next, at a place where a node waits.

    While moves that are left could not be come to without this place, a move
    must not be chosen from which no way leads back to it, as long as one is left
    from which some does: so all that is left can be come to at each time.
    """
    place = -1
    here = []
    for number in rest:
        move = grammar.moves[number]
        if waiting[move.place] and place in (-1, move.place):
            place = move.place
            here.append(number)
    if len(here) == 1:
        return here[0]
    away = moves_at([grammar.moves[number] for number in rest if grammar.moves[number].place != place])
    for number in here[1:]:
        if place in reached_from(grammar.moves[number].leads, away):
            return number
    return here[0]


def way_of(flow, root):
    """The edges of a way that makes the moves of a node and of those within it."""
    found = []
    waiting = [(root, "")]
    while waiting:
        node, late = waiting.pop()
        if late:
            found.append(flow.edges[flow.number_at[(node.move.block, late)]])
            continue
        move = node.move
        if move.way in ("value", "fault", "waits"):
            found.append(flow.edges[flow.number_at[(move.block, "call")]])
            # The edge behind the call stands between what is within the call and what is behind.
            behind = [] if move.way == "waits" else [(node, move.way)]
            pieces = [(node.inner[0], ""), *behind, *[(inner, "") for inner in node.inner[1:]]]
            waiting.extend(pieces[::-1])
        elif move.way != "stands":
            found.append(flow.edges[flow.number_at[(move.block, move.way)]])
            waiting.extend([(inner, "") for inner in node.inner])
    return found


def full_counts(grammar):
    """Counts of a tally that makes each move, and of ways that begin at each main place where moves are made."""
    endings = ending_counts(grammar)
    comings = coming_counts(grammar, endings)
    total = [0] * len(grammar.moves)
    for number, move in enumerate(grammar.moves):
        if total[number] == 0 or move.place in grammar.mains:
            total = added(grammar, move, [total, comings[move.place], *[endings[lead] for lead in move.leads]])
    return total


def added(grammar, move, rows):
    """The sums of rows of a number for each move, and a move once more."""
    found = [sum(column) for column in zip(*rows)]
    found[grammar.move_at[(move.place, move.way)]] += 1
    return found


def ending_counts(grammar):
    """For each place how often each move is made by some way from there to its end."""
    found = {}
    nothing = [0] * len(grammar.moves)
    for place, move in endings_of(grammar.moves).items():
        found[place] = added(grammar, move, [nothing, *[found[lead] for lead in move.leads]])
    return found


def coming_counts(grammar, endings):
    """For each place how often each move is made by some way to it, all moves but those from there on."""
    found = {}
    nothing = [0] * len(grammar.moves)
    for place, move in reached_from(grammar.mains, moves_at(grammar.moves)).items():
        if move is None:
            found[place] = nothing
            continue
        beside = list(move.leads)
        beside.remove(place)
        found[place] = added(grammar, move, [found[move.place], *[endings[lead] for lead in beside]])
    return found
