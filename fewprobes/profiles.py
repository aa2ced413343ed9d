"""Profiles: how often runs have gone along each edge, and where they were cut off."""

from fewprobes.errors import InvalidList, InvalidProfile, Unlike
from fewprobes.flow import edge_numbers, flow_of, stack_of
from fewprobes.kinds import are_counts, is_count, is_tuple_of


def is_profile(program, value):
    """Whether a value has the form of a profile of a program."""
    return has_form(flow_of(program), value)


def has_form(flow, value):
    """Whether a value has the form of a profile of the program of a flow."""
    if not is_tuple_of(value, 5) or value[0] != "profile" or not is_count(value[1]):
        return False
    blocks = len(flow.blocks)
    return are_counts(value[2], len(flow.edges)) and are_counts(value[3], blocks) and are_counts(value[4], blocks)


def check_profile(flow, value):
    """Refuses whatever has not the form of a profile of the program of a flow."""
    if not has_form(flow, value):
        raise InvalidProfile(value)


def recorded(program, way):
    """The profile of one run that has gone along a way."""
    flow = flow_of(program)
    stack = stack_of(flow, way)
    if stack is None:
        raise InvalidList(way)
    counts = [0] * len(flow.edges)
    for number in edge_numbers(flow, way):
        counts[number] += 1
    waiting = [0] * len(flow.blocks)
    for block in stack[:-1]:
        waiting[block] += 1
    standing = [0] * len(flow.blocks)
    for block in stack[-1:]:
        standing[block] += 1
    return ("profile", 1, counts, waiting, standing)


def merged(program, profiles):
    """The profile of all runs of which profiles tell."""
    flow = flow_of(program)
    if not isinstance(profiles, list):
        raise InvalidList(profiles)
    for profile in profiles:
        check_profile(flow, profile)
    runs = sum([profile[1] for profile in profiles])
    counts = sums(len(flow.edges), [profile[2] for profile in profiles])
    waiting = sums(len(flow.blocks), [profile[3] for profile in profiles])
    standing = sums(len(flow.blocks), [profile[4] for profile in profiles])
    return ("profile", runs, counts, waiting, standing)


def sums(many, rows):
    """The sums of rows of so many numbers, place by place."""
    found = [0] * many
    for row in rows:
        for at, number in enumerate(row):
            found[at] += number
    return found


def without(program, profile, other):
    """The profile whose numbers are those of one less those of another."""
    flow = flow_of(program)
    check_profile(flow, profile)
    check_profile(flow, other)
    runs = profile[1] - other[1]
    counts = differences(profile[2], other[2])
    waiting = differences(profile[3], other[3])
    standing = differences(profile[4], other[4])
    if min([runs, *counts, *waiting, *standing]) < 0:
        raise Unlike(other)
    return ("profile", runs, counts, waiting, standing)


def differences(row, other):
    """The numbers of one row less those of another, place by place."""
    return [number - less for number, less in zip(row, other)]


def passes(program, profile):
    """How often each block was gone through."""
    flow = flow_of(program)
    check_profile(flow, profile)
    return passes_of(flow, profile)


def passes_of(flow, profile):
    """How often each block was gone through by the runs of a profile."""
    found = [0] * len(flow.blocks)
    for number, many in enumerate(profile[2]):
        if flow.way_of[number] not in ("value", "fault"):
            found[flow.block_of[number]] += many
    return found


def begun(program, profile):
    """How often each function was begun."""
    flow = flow_of(program)
    check_profile(flow, profile)
    found = [0] * len(flow.names)
    found[0] = profile[1]
    for number, many in enumerate(profile[2]):
        if flow.way_of[number] == "call":
            found[flow.called[flow.block_of[number]]] += many
    return list(zip(flow.names, found))
