"""Which probes show which edges, what others leave open, and the cheapest that show all."""

from fewprobes.flow import flow_of
from fewprobes.grammar import check_flag
from fewprobes.marking import Marks, Trails
from fewprobes.probes import price_list, probe_numbers, probed_edge


def is_shown(program, probes, edge, cuts):
    """Whether probes show an edge."""
    known = Marks(flow_of(program))
    probed = probe_numbers(known.flow, probes)
    number = probed_edge(known.flow, edge)
    check_flag(cuts)
    return shows(Trails(known, cuts), probed, number)


def shows(trails, probed, number):
    """Whether probes show an edge, all by their numbers."""
    found = trails.live([number])
    return number not in trails.live(telling(trails.known, probed, found))


def telling(known, probed, found):
    """The numbers of the probes and pauses that imply an edge, by the marks that ways without it have."""
    return [number for number in [*probed, *known.pauses()] if number not in found]


def unshown(program, probes, edge, cuts):
    """Two coverages of which the same is seen, with the edge in the other one only; None if it is shown."""
    known = Marks(flow_of(program))
    probed = probe_numbers(known.flow, probes)
    number = probed_edge(known.flow, edge)
    check_flag(cuts)
    trails = Trails(known, cuts)
    one = trails.live([number])
    more = trails.live(telling(known, probed, one))
    if number not in more:
        return None
    # Each probe and pause that is seen in these more ways is seen in some way without the edge, too.
    return (known.told(one), known.told({**one, **more}))


def shows_all(program, probes, cuts):
    """Whether probes show each edge."""
    known = Marks(flow_of(program))
    probed = probe_numbers(known.flow, probes)
    check_flag(cuts)
    trails = Trails(known, cuts)
    return all([shows(trails, probed, number) for number in range(len(known.flow.edges))])


def classes(program, cuts):
    """The classes of the edges of the ways that count."""
    known = Marks(flow_of(program))
    check_flag(cuts)
    return [known.told(numbers) for numbers in class_numbers(Trails(known, cuts))]


def class_numbers(trails):
    """The classes, each as the numbers of its edges in order."""
    found = trails.live([])
    alive = [number for number in range(len(trails.known.flow.edges)) if number in found]
    left = {number: trails.live([number]) for number in alive}
    groups = []
    held = {}
    for number in alive:
        if number in held:
            continue
        group = [other for other in alive if number not in left[other] and other not in left[number]]
        for other in group:
            held[other] = True
        groups.append(group)
    return groups


def needed_classes(program, cuts):
    """The classes whose edges are not shown by all edges outside of them."""
    known = Marks(flow_of(program))
    check_flag(cuts)
    return [known.told(numbers) for numbers in needed_numbers(Trails(known, cuts))]


def needed_numbers(trails):
    """The needed classes, each as the numbers of its edges in order."""
    found = []
    for group in class_numbers(trails):
        outside = [number for number in range(len(trails.known.flow.edges)) if number not in group]
        if not shows(trails, outside, group[0]):
            found.append(group)
    return found


def least_cover(program, prices, cuts):
    """The cheapest of the edges with a price that show all edges, None if all of them do not."""
    known = Marks(flow_of(program))
    table = price_list(known.flow, prices)
    check_flag(cuts)
    # One edge of each needed class is enough, and no edge is of two classes.
    found = []
    for group in needed_numbers(Trails(known, cuts)):
        priced = [(table[number], number) for number in group if number in table]
        if not priced:
            return None
        price, number = min(priced)
        found.append(number)
    return known.told(found)
