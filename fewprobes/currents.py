"""What can be told of the sums at edges: the sums at all edges but calls, and the rules that they keep.

The height of a place (the word of papers) is taken as the height of its block plus
that of its function's leaving: the first block of a function has the height 0, and
so have the leaving "cut" and all leavings of the main function. Nothing is lost by
this: from block to block of a call heights fall alike whatever its leaving is, and
heights of the leaving "cut" are told apart from others by pauses alone, whose marks
are free. Each other height makes a rule: the sums at the edges, each times how often
the height stands in the row of its edge, come to 0 but for the pauses at a block.
"""

from fewprobes.flow import NONE
from fewprobes.grammar import CUT, FAULT, LEAVINGS, VALUE
from fewprobes.spans import Span


class Currents:
    """The edges but calls that stand in ways that count, numbered, and the rules that their sums keep."""

    def __init__(self, grammar):
        self.flow = grammar.flow
        moved = [move for move in grammar.moves if move.way not in ("waits", "stands")]
        self.edges = sorted(set([self.flow.number_at[(move.block, move.way)] for move in moved]))
        self.columns = {number: column for column, number in enumerate(self.edges)}
        rules = {}
        for column, number in enumerate(self.edges):
            for key, times in self.heights_in(number):
                rule = rules.setdefault(key, {})
                rule[column] = rule.get(column, 0) + times
        self.rules = {key: without_zeros(rules[key]) for key in rules}

    def heights_in(self, number):
        """The free heights in the row of an edge, each with how often it stands there."""
        flow = self.flow
        block = flow.block_of[number]
        way = flow.way_of[number]
        function = flow.function_of[block]
        keys = [(self.block_key(block), 1)]
        if way in ("value", "fault"):
            keys.append((self.leaving_key(flow.called[block], VALUE if way == "value" else FAULT), -1))
        if flow.target_of[number] != NONE:
            keys.append((self.block_key(flow.target_of[number]), -1))
        else:
            keys.append((self.leaving_key(function, VALUE if way == "return" else FAULT), 1))
        return [(key, times) for key, times in keys if key is not None]

    def block_key(self, block):
        """The key of the height of a block, None if it is 0 throughout."""
        if block in self.flow.firsts:
            return None
        return ("block", block)

    def leaving_key(self, function, leaving):
        """The key of the height of a leaving, None if it is 0 throughout."""
        if function == 0 or leaving == CUT:
            return None
        return ("leaving", function, leaving)

    def row_of(self, number):
        """The sum at an edge as a row of the sums at the edges but calls, pauses aside."""
        if self.flow.way_of[number] != "call":
            parts = [number]
        else:
            block = self.flow.block_of[number]
            parts = [self.flow.number_at[(block, "value")], self.flow.number_at[(block, "fault")]]
        return {self.columns[part]: 1 for part in parts if part in self.columns}

    def keys_of(self, place):
        """The keys of the free heights that make up the height of a place."""
        block, leaving = divmod(place, len(LEAVINGS))
        keys = [self.block_key(block), self.leaving_key(self.flow.function_of[block], leaving)]
        return [key for key in keys if key is not None]

    def span_of(self, probes):
        """The span of the rows of probes and of all rules."""
        span = Span(len(self.edges))
        for number in probes:
            span.takes(self.row_of(number))
        for key in self.rules:
            span.takes(self.rules[key])
        return span

    def are_enough(self, probes):
        """Whether probes tell the sums at all edges."""
        return len(self.span_of(probes).rows) == len(self.edges)

    def told(self, probes, numbers, waiting, standing):
        """The sums at all edges, from those at probes that are enough, and from the pauses at blocks."""
        # The column behind those of the edges has the number that is known.
        own = len(self.edges)
        span = Span(own)
        for probe, number in zip(probes, numbers):
            row = self.row_of(probe)
            row[own] = 0 - number
            if self.flow.way_of[probe] == "call":
                row[own] += waiting[self.flow.block_of[probe]]
            span.takes(without_zeros(row))
        for key in self.rules:
            row = dict(self.rules[key])
            if key[0] == "block":
                row[own] = waiting[key[1]] + standing[key[1]]
            span.takes(without_zeros(row))
        found = span.solved({own: (1, 1)})
        sums = []
        for number, way in enumerate(self.flow.way_of):
            parts = [found[column] for column in self.row_of(number)]
            own_pauses = waiting[self.flow.block_of[number]] if way == "call" else 0
            sums.append(own_pauses + sum([above // below for above, below in parts]))
        return sums


def without_zeros(row):
    """A row without those of its numbers that are 0."""
    return {at: row[at] for at in row if row[at] != 0}
