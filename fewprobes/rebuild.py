"""Programs rebuilt with counters, and what these tell of the runs of the program itself."""

from fewprobes.blocks import GREATEST_COUNTER, MOST_BLOCKS
from fewprobes.counting import Plan
from fewprobes.errors import InvalidList, TooMany
from fewprobes.flow import NONE, flow_of
from fewprobes.kinds import are_counts, is_count, is_tuple_of
from fewprobes.marking import Marks
from fewprobes.probes import probe_numbers


def plan_of(program, probes):
    """The plan for what is handed in as a program and probes."""
    flow = flow_of(program)
    return Plan(program, flow, probe_numbers(flow, probes))


def rebuilt(program, probes):
    """A program that does the same, and counts besides how often it goes along probes."""
    plan = plan_of(program, probes)
    greatest = plan.first + len(probes) - 1
    if probes and greatest > GREATEST_COUNTER:
        raise TooMany(greatest)
    for many in plan.sizes():
        if many > MOST_BLOCKS:
            raise TooMany(many)
    return ("program", plan.functions())


def meant(program, probes, stack):
    """The stack of the program's run at the same point, and the probes that are gone but not counted yet."""
    plan = plan_of(program, probes)
    check_stack(plan, stack)
    own, late = told_by(plan, stack)
    return (own, [plan.flow.edges[number] for number in late])


def check_stack(plan, stack):
    """Refuses whatever is no list of blocks of the rebuilt program."""
    if not isinstance(stack, list) or not all([plan.is_block(place) for place in stack]):
        raise InvalidList(stack)


def told_by(plan, stack):
    """The stack of the program's run at the same point, and the numbers of the probes that are not counted yet."""
    flow = plan.flow
    if not stack or stack[-1] not in plan.probe_at:
        return list(stack), []
    late = [plan.probe_at[stack[-1]]]
    calls = stack[:-1]
    target = flow.target_of[late[0]]
    # The program's run has passed on a fault at once, as far as it is passed on.
    while target == NONE and calls:
        name, label = calls.pop()
        number = flow.edge_at.get((name, label, "fault"), NONE)
        # Blocks that call nothing stand there only in what stands behind no way.
        if number != NONE:
            target = flow.target_of[number]
            if number in plan.counter_of:
                late.append(number)
    own = [] if target == NONE else [*calls, flow.blocks[target]]
    return own, late


def counted(program, probes, counters, stack):
    """How often the program's run has gone along each probe at the same point."""
    plan = plan_of(program, probes)
    check_counters(counters)
    check_stack(plan, stack)
    own, late = told_by(plan, stack)
    return numbers_told(plan, counters, late)


def check_counters(counters):
    """Refuses whatever is no list of counters with their counts, in order."""
    if not isinstance(counters, list) or not all([is_tuple_of(pair, 2) for pair in counters]):
        raise InvalidList(counters)
    if not all([is_count(number) and is_count(many) for number, many in counters]):
        raise InvalidList(counters)
    if any([pair[0] >= other[0] for pair, other in zip(counters, counters[1:])]):
        raise InvalidList(counters)


def numbers_told(plan, counters, late):
    """How often each probe was gone, from the counters and those that are not counted yet."""
    known = dict(counters)
    found = {number: known.get(counter, 0) for number, counter in plan.counter_of.items()}
    for number in late:
        found[number] += 1
    return list(found.values())


def flagged(program, probes, counters, stack):
    """What is seen of the program's run at the same point."""
    plan = plan_of(program, probes)
    check_counters(counters)
    check_stack(plan, stack)
    own, late = told_by(plan, stack)
    known = Marks(plan.flow)
    found = {number: True for number, many in zip(plan.counter_of, numbers_told(plan, counters, late)) if many > 0}
    waiting = [(name, label, "waits") for name, label in own[:-1]]
    standing = [(name, label, "stands") for name, label in own[-1:]]
    for mark in waiting + standing:
        # What stands behind no way may have what is no mark.
        if mark in known.mark_at:
            found[known.mark_at[mark]] = True
    return known.told(found)


def overhead(program, probes, numbers):
    """How many more blocks, and how many more count steps, a rebuilt run has that goes along probes so often."""
    plan = plan_of(program, probes)
    if not are_counts(numbers, len(probes)):
        raise InvalidList(numbers)
    blocks = sum([many for number, many in zip(plan.counter_of, numbers) if number in plan.label_of])
    return (blocks, sum(numbers))
