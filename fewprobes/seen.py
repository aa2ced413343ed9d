"""What is seen of runs, and what that tells of each edge."""

from fewprobes.errors import InvalidProfile, Unlike
from fewprobes.flow import flow_of
from fewprobes.grammar import check_flag
from fewprobes.marking import Marks, Trails, set_numbers
from fewprobes.probes import probe_numbers, probed_edge
from fewprobes.profiles import check_profile


def seen_in(program, probes, profile):
    """What is seen of the runs of a profile."""
    known = Marks(flow_of(program))
    probed = probe_numbers(known.flow, probes)
    check_profile(known.flow, profile)
    found = [number for number in probed if profile[2][number] > 0]
    for (block, pause), number in known.pause_at.items():
        counts = profile[3] if pause == "waits" else profile[4]
        if counts[block] > 0:
            found.append(number)
    return known.told(found)


def seen_back(program, probes, seen):
    """For each edge whether all lists of ways that fit have it, or none, or some."""
    known = Marks(flow_of(program))
    probed = probe_numbers(known.flow, probes)
    shown = seen_numbers(known, probed, seen)
    trails = Trails(known, True)
    barred = unseen(known, probed, shown)
    most = trails.live(barred)
    check_fit(shown, most, seen)
    found = []
    for number in range(len(known.flow.edges)):
        if number not in most:
            found.append("no")
        else:
            found.append("open" if fit(shown, trails.live([*barred, number])) else "yes")
    return found


def seen_numbers(known, probed, seen):
    """The numbers of what is handed in as what is seen."""
    numbers = set_numbers(known, seen)
    if numbers is None:
        raise InvalidProfile(seen)
    edges = len(known.flow.edges)
    if not all([number in probed or number >= edges for number in numbers]):
        raise InvalidProfile(seen)
    return numbers


def unseen(known, probed, shown):
    """The numbers of the probes and pauses that are not seen."""
    return [number for number in [*probed, *known.pauses()] if number not in shown]


def fit(shown, found):
    """Whether all that is seen is among the marks of ways that have nothing else that could be seen."""
    return all([number in found for number in shown])


def check_fit(shown, found, seen):
    """Refuses what is seen of no list of ways."""
    if not fit(shown, found):
        raise Unlike(seen)


def fitting(program, probes, seen, edge, flag):
    """The coverage of a list of ways that fits, with an edge or without it; None if there is none."""
    known = Marks(flow_of(program))
    probed = probe_numbers(known.flow, probes)
    shown = seen_numbers(known, probed, seen)
    number = probed_edge(known.flow, edge)
    check_flag(flag)
    trails = Trails(known, True)
    barred = unseen(known, probed, shown)
    most = trails.live(barred)
    check_fit(shown, most, seen)
    if flag:
        return known.told(most) if number in most else None
    rest = trails.live([*barred, number])
    return known.told(rest) if fit(shown, rest) else None
