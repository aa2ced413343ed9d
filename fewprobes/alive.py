"""Which marks ways have that do without others, and the shortest way that has one."""

from fewprobes.errors import TooMany
from fewprobes.flow import flow_of
from fewprobes.grammar import check_flag
from fewprobes.marking import Marks, Trails, mark_number, mark_set
from fewprobes.shortest import MOST_EDGES, Shortest


def marks(program):
    """All marks that ways through a program might have."""
    return Marks(flow_of(program)).rows


def live(program, gone, cuts):
    """The marks of all ways that count and have no mark that is gone."""
    known = Marks(flow_of(program))
    barred = mark_set(known, gone)
    check_flag(cuts)
    return known.told(Trails(known, cuts).live(barred))


def shortest_way(program, mark, gone, cuts):
    """A way with a mark and without any that is gone, with as few edges as possible; None if there is none."""
    known = Marks(flow_of(program))
    number = mark_number(known, mark)
    barred = mark_set(known, gone)
    check_flag(cuts)
    trails = Trails(known, cuts)
    shortest = Shortest(known, trails.mains, trails.without(barred))
    if number not in shortest.best:
        return None
    if shortest.best[number][0] > MOST_EDGES:
        raise TooMany(shortest.best[number][0])
    return shortest.way_with(number)
