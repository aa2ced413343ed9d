"""Coverages: which sets of marks are some, ways that have just these marks, and which marks imply which."""

from fewprobes.errors import InvalidProfile, TooMany
from fewprobes.flow import flow_of
from fewprobes.grammar import check_flag
from fewprobes.marking import Marks, Trails, mark_number, mark_set, set_numbers
from fewprobes.shortest import MOST_EDGES, Shortest


def is_coverage(program, value, cuts):
    """Whether a value is the coverage of some list of ways that count."""
    known = Marks(flow_of(program))
    check_flag(cuts)
    numbers = set_numbers(known, value)
    if numbers is None:
        return False
    found = Trails(known, cuts).live(others_than(known, numbers))
    return all([number in found for number in numbers])


def others_than(known, numbers):
    """The numbers of all marks but these."""
    held = {number: True for number in numbers}
    return [number for number in range(len(known.rows)) if number not in held]


def ways_over(program, covered, cuts):
    """A list of ways that count whose coverage is a set of marks."""
    known = Marks(flow_of(program))
    numbers = sorted(mark_set(known, covered))
    check_flag(cuts)
    trails = Trails(known, cuts)
    shortest = Shortest(known, trails.mains, trails.without(others_than(known, numbers)))
    if not all([number in shortest.best for number in numbers]):
        raise InvalidProfile(covered)
    for number in numbers:
        if shortest.best[number][0] > MOST_EDGES:
            raise TooMany(shortest.best[number][0])
    # Ways have one "stands" at most, but many edges: so few ways are left for the edges.
    ways = []
    held = {}
    for number in numbers[::-1]:
        if number in held:
            continue
        way = shortest.way_with(number)
        ways.append(way)
        for edge in way:
            held[known.mark_at[edge]] = True
    return ways


def implied(program, mark, cuts):
    """The marks that each way that counts has which has a mark."""
    known = Marks(flow_of(program))
    number = mark_number(known, mark)
    check_flag(cuts)
    trails = Trails(known, cuts)
    return known.told([other for other in range(len(known.rows)) if number not in trails.live([other])])
