"""The cheapest probes, and steps to cheaper ones."""

from fewprobes.flow import NONE
from fewprobes.spans import Span


def least_of(currents, prices):
    """The numbers of the cheapest edges with a price that are enough, None if all of them are not."""
    span = currents.span_of([])
    found = []
    for price, number in sorted([(prices[number], number) for number in prices]):
        if span.takes(currents.row_of(number)):
            found.append(number)
    return sorted(found) if len(span.rows) == len(currents.edges) else None


def cheaper_step(currents, prices, probes):
    """A probe that can be left out, or exchanged for a cheaper edge, and this edge or NONE; None if there is none."""
    rules = currents.span_of([])
    rows = {number: rules.left_of(currents.row_of(number)) for number in prices}
    missing = len(currents.edges) - len(rules.rows)
    held = {probe: True for probe in probes}
    for probe in probes:
        if prices[probe] == 0:
            continue
        span = Span(len(currents.edges))
        for other in probes:
            if other != probe:
                span.takes(rows[other])
        if len(span.rows) == missing:
            return (probe, NONE)
        for number in prices:
            if number not in held and prices[number] < prices[probe] and not span.spans(rows[number]):
                return (probe, number)
    return None
