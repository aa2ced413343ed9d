"""Which blocks of two programs go in step, which of these are alike, and which hang together."""

from fewprobes.blocks import WAYS
from fewprobes.flow import NONE


class Pairs:
    """The blocks of two programs that go in step, and what is told of them, all by numbers."""

    def __init__(self, program, flow, other, other_flow):
        self.flow = flow
        self.other_flow = other_flow
        self.same_begin = program[1][0][1] == other[1][0][1]
        shapes = shapes_of(program, flow)
        other_shapes = shapes_of(other, other_flow)
        # Each pair that goes in step, in order, with whether its blocks are alike.
        self.alike = {}
        waiting = [(flow.firsts[0], other_flow.firsts[0])] if self.same_begin else []
        found = {}
        while waiting:
            block, partner = waiting.pop()
            if (block, partner) in found:
                continue
            found[(block, partner)] = shapes[block] == other_shapes[partner]
            if found[(block, partner)]:
                waiting.extend(self.led_to(block, partner))
        for pair in sorted(found):
            self.alike[pair] = found[pair]

    def led_to(self, block, partner):
        """The pairs to which the ways of two alike blocks lead."""
        own, theirs = self.flow.ways[block], self.other_flow.ways[partner]
        return [(one[1], two[1]) for one, two in zip(own, theirs) if one[1] != NONE]

    def partners(self):
        """For each block of the one program those of the other one that go in step with it."""
        found = [[] for _ in self.flow.blocks]
        for block, partner in self.alike:
            found[block].append(partner)
        return found

    def unlike(self):
        """The blocks of the one program that go in step with one to which they are not alike, as a dict of True."""
        return {block: True for block, partner in self.alike if not self.alike[(block, partner)]}

    def knots(self):
        """For each block of the one program, and behind these for each of the other one, a number.

        Those that hang together have the same number.
        """
        many = len(self.flow.blocks)
        joined = [[] for _ in range(many + len(self.other_flow.blocks))]
        for block, partner in self.alike:
            if self.alike[(block, partner)]:
                joined[block].append(many + partner)
                joined[many + partner].append(block)
        found = [NONE] * len(joined)
        for first in range(len(joined)):
            waiting = [first]
            while waiting:
                at = waiting.pop()
                if found[at] == NONE:
                    found[at] = first
                    waiting.extend(joined[at])
        return found


def shapes_of(program, flow):
    """What has to be the same in alike blocks: steps, ends but for labels and functions, and what is handed over."""
    parameters = [function[1] for function in program[1]]
    steps = [block[1] for function in program[1] for block in function[2]]
    found = []
    for block, end in enumerate(flow.ends):
        called = flow.called[block]
        found.append((steps[block], bare_end(end), [] if called == NONE else parameters[called]))
    return found


def bare_end(end):
    """An end without its labels and without the name of a called function."""
    parts = list(end)
    for way, at in WAYS[end[0]]:
        if at is not None:
            parts[at] = ""
    if end[0] in ("call", "try"):
        parts[2] = ""
    return parts
