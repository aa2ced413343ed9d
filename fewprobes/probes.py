"""Probes: which of them are enough to tell all sums, what they cost, and what they tell."""

from fewprobes.balance import edge_sums, fits
from fewprobes.choosing import cheaper_step, least_of
from fewprobes.currents import Currents
from fewprobes.errors import InvalidEdge, InvalidList, Unlike
from fewprobes.flow import NONE, edge_number, edge_numbers, flow_of
from fewprobes.grammar import CUT, FAULT, PAUSES, VALUE, Grammar, grammar_of, place_of
from fewprobes.kinds import are_counts, are_unlike, is_count, is_tuple_of
from fewprobes.papers import is_paper_of, paper_of
from fewprobes.parting import parted_by

GREATEST_PRICE = 1000000000


def probe_numbers(flow, probes):
    """The numbers of the edges of what is handed in as probes."""
    numbers = edge_numbers(flow, probes)
    if numbers is None or not are_unlike(numbers):
        raise InvalidList(probes)
    return numbers


def probed_edge(flow, edge):
    """The number of what is handed in as an edge."""
    number = edge_number(flow, edge)
    if number == NONE:
        raise InvalidEdge(edge)
    return number


def is_enough(program, probes, cuts):
    """Whether probes tell the sums at all edges."""
    grammar = grammar_of(program, cuts)
    return Currents(grammar).are_enough(probe_numbers(grammar.flow, probes))


def paper(program, probes, edge, cuts):
    """A paper for an edge, None if probes do not tell its sum."""
    grammar = grammar_of(program, cuts)
    numbers = probe_numbers(grammar.flow, probes)
    return paper_of(grammar, numbers, probed_edge(grammar.flow, edge))


def is_paper(program, probes, edge, value, cuts):
    """Whether a value is a paper for an edge."""
    grammar = grammar_of(program, cuts)
    numbers = probe_numbers(grammar.flow, probes)
    return is_paper_of(grammar, numbers, probed_edge(grammar.flow, edge), value)


def parted(program, probes, cuts):
    """Two tallies that probes can't tell apart, None if they are enough."""
    grammar = grammar_of(program, cuts)
    return parted_by(grammar, probe_numbers(grammar.flow, probes))


def is_parting(program, probes, value, cuts):
    """Whether a value is a tuple of two tallies that probes can't tell apart."""
    grammar = grammar_of(program, cuts)
    numbers = probe_numbers(grammar.flow, probes)
    if not is_tuple_of(value, 2) or not all([fits(grammar, counts) for counts in value]):
        return False
    one, other = [edge_sums(grammar, counts) for counts in value]
    if any([one[number] != other[number] for number in numbers]):
        return False
    pauses = [number for number, move in enumerate(grammar.moves) if move.way in PAUSES]
    return one != other and all([value[0][number] == value[1][number] for number in pauses])


def needed(program, cuts):
    """How many probes are enough at least."""
    grammar = grammar_of(program, cuts)
    if not grammar.moves:
        return 0
    flow = grammar.flow
    edges = set([(move.block, move.way) for move in grammar.moves if move.way not in PAUSES])
    blocks = set([move.block for move in grammar.moves if move.way != "stands"])
    both = 0
    endless = 0
    for first in flow.firsts[1:]:
        by_value = place_of(first, VALUE) in grammar.places
        by_fault = place_of(first, FAULT) in grammar.places
        if by_value and by_fault:
            both += 1
        elif not by_value and not by_fault and place_of(first, CUT) in grammar.places:
            endless += 1
    return len(edges) - len(blocks) + 1 - both + endless


def price_list(flow, prices):
    """The prices that are handed in, each with the number of its edge, as a dict."""
    if not isinstance(prices, list) or not all([is_tuple_of(item, 2) for item in prices]):
        raise InvalidList(prices)
    numbers = edge_numbers(flow, [item[0] for item in prices])
    if numbers is None or not are_unlike(numbers):
        raise InvalidList(prices)
    if not all([is_count(item[1]) and item[1] <= GREATEST_PRICE for item in prices]):
        raise InvalidList(prices)
    return {number: item[1] for number, item in zip(numbers, prices)}


def least_probes(program, prices, cuts):
    """The cheapest of the edges with a price that are enough, None if all of them are not."""
    grammar = grammar_of(program, cuts)
    numbers = least_of(Currents(grammar), price_list(grammar.flow, prices))
    if numbers is None:
        return None
    return [grammar.flow.edges[number] for number in numbers]


def is_least(program, prices, value, cuts):
    """Whether a value is a list of edges with a price that are enough, as cheap as any."""
    grammar = grammar_of(program, cuts)
    known = price_list(grammar.flow, prices)
    numbers = edge_numbers(grammar.flow, value)
    if numbers is None or not all([number in known for number in numbers]):
        return False
    if any([number >= other for number, other in zip(numbers, numbers[1:])]):
        return False
    currents = Currents(grammar)
    if not currents.are_enough(numbers):
        return False
    least = least_of(currents, known)
    return sum([known[number] for number in numbers]) == sum([known[number] for number in least])


def cheaper(program, prices, probes, cuts):
    """A step that makes probes cheaper, None if there is none."""
    grammar = grammar_of(program, cuts)
    known = price_list(grammar.flow, prices)
    numbers = probe_numbers(grammar.flow, probes)
    if not all([number in known for number in numbers]):
        raise InvalidList(probes)
    currents = Currents(grammar)
    if not currents.are_enough(numbers):
        raise Unlike(probes)
    step = cheaper_step(currents, known, numbers)
    if step is None:
        return None
    out, into = step
    return (grammar.flow.edges[out], None if into == NONE else grammar.flow.edges[into])


def told_back(program, probes, numbers, waiting, standing):
    """How often each edge was gone, from how often probes were and from where runs were cut off."""
    flow = flow_of(program)
    probed = probe_numbers(flow, probes)
    check_counts(numbers, len(probed))
    check_counts(waiting, len(flow.blocks))
    check_counts(standing, len(flow.blocks))
    grammar = Grammar(flow, any(waiting) or any(standing))
    currents = Currents(grammar)
    if not currents.are_enough(probed):
        raise Unlike(probes)
    check_pauses(grammar, waiting, "waits")
    check_pauses(grammar, standing, "stands")
    return currents.told(probed, numbers, waiting, standing)


def check_counts(value, many):
    """Refuses whatever is no list of so many counts."""
    if not are_counts(value, many):
        raise InvalidList(value)


def check_pauses(grammar, counts, pause):
    """Refuses counts of a pause at blocks, if there is one at which no way makes it."""
    for block, many in enumerate(counts):
        if many > 0 and (place_of(block, CUT), pause) not in grammar.move_at:
            raise Unlike(counts)
