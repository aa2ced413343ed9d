"""Papers: why probes tell the sum at an edge."""

from fewprobes.currents import Currents
from fewprobes.grammar import PAUSES, edges_of_move
from fewprobes.kinds import is_tuple_of
from fewprobes.ratios import are_ratios, ratio, total_of
from fewprobes.spans import Span

ZERO = (0, 1)
ONE = (1, 1)


def paper_of(grammar, probes, number):
    """The paper for an edge, None if there is none; probes are numbers of edges, too."""
    currents = Currents(grammar)
    keys = list(currents.rules)
    rows = [*[currents.row_of(probe) for probe in probes], *[currents.rules[key] for key in keys]]
    times = times_of(len(currents.edges), rows, currents.row_of(number))
    if times is None:
        return None
    shares = times[:len(probes)]
    heights = {key: many for key, many in zip(keys, times[len(probes):])}
    told = {}
    for place in grammar.places:
        told[place] = total_of([(heights.get(key, ZERO), 1) for key in currents.keys_of(place)])
    marks = [left_at(grammar, move, number, probes, shares, told) for move in pauses_of(grammar)]
    return (shares, marks, [told[place] for place in grammar.places])


def times_of(width, rows, row):
    """How often each of some rows is taken in a sum that is a row, None if there is none."""
    span = Span(width)
    # Behind the columns of the rows one for each of them tells how often it was taken.
    for at, given in enumerate(rows):
        span.takes(with_column(given, width + at))
    own = width + len(rows)
    left = span.left_of(with_column(row, own))
    if span.column_of(left) is not None:
        return None
    return [ratio(0 - left.get(width + at, 0), left[own]) for at in range(len(rows))]


def with_column(row, column):
    """A row with a 1 at a further column."""
    found = dict(row)
    found[column] = 1
    return found


def pauses_of(grammar):
    """The pauses among the moves."""
    return [move for move in grammar.moves if move.way in PAUSES]


def left_at(grammar, move, number, probes, shares, heights):
    """Whether an edge is one of a move's (1 or 0), less the shares of probes that are, less its fall of heights."""
    edges = edges_of_move(grammar.flow, move)
    terms = [(ONE, 1 if number in edges else 0), (heights[move.place], -1)]
    terms.extend([(share, -1) for probe, share in zip(probes, shares) if probe in edges])
    terms.extend([(heights[lead], 1) for lead in move.leads])
    return total_of(terms)


def is_paper_of(grammar, probes, number, value):
    """Whether a value is a paper for an edge."""
    if not is_tuple_of(value, 3):
        return False
    shares, marks, heights = value
    pauses = pauses_of(grammar)
    if not are_ratios(shares, len(probes)) or not are_ratios(marks, len(pauses)):
        return False
    if not are_ratios(heights, len(grammar.places)):
        return False
    told = {place: height for place, height in zip(grammar.places, heights)}
    if not all([told.get(place, ZERO) == ZERO for place in grammar.mains]):
        return False
    marked = {(move.place, move.way): mark for move, mark in zip(pauses, marks)}
    for move in grammar.moves:
        mark = marked.get((move.place, move.way), ZERO)
        if left_at(grammar, move, number, probes, shares, told) != mark:
            return False
    return True
