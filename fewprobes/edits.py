"""What profiles of a program tell of the same runs in another one."""

from fewprobes.errors import Unlike
from fewprobes.flow import flow_of
from fewprobes.profiles import check_profile
from fewprobes.stepping import Pairs


def in_step(program, other):
    """The blocks of two programs that go in step, with whether they are alike."""
    pairs = pairs_of(program, other)
    found = []
    for block, partner in pairs.alike:
        name, label = pairs.flow.blocks[block]
        other_name, other_label = pairs.other_flow.blocks[partner]
        found.append((name, label, other_name, other_label, pairs.alike[(block, partner)]))
    return found


def pairs_of(program, other):
    """The pairs of what is handed in as two programs."""
    flow = flow_of(program)
    other_flow = flow_of(other)
    return Pairs(program, flow, other, other_flow)


def lots(program, other, profile):
    """The lots of edges of the other program, with how often the runs of a profile go along them there."""
    pairs = pairs_of(program, other)
    check_profile(pairs.flow, profile)
    check_alike(pairs, other, profile)
    many = len(pairs.flow.blocks)
    knots = pairs.knots()
    groups = {}
    sums = {}
    for number, edge in enumerate(pairs.other_flow.edges):
        key = (knots[many + pairs.other_flow.block_of[number]], pairs.other_flow.way_of[number])
        groups.setdefault(key, []).append(edge)
        sums[key] = 0
    for number, count in enumerate(profile[2]):
        key = (knots[pairs.flow.block_of[number]], pairs.flow.way_of[number])
        if key in sums:
            sums[key] += count
    return [(groups[key], sums[key]) for key in groups]


def check_alike(pairs, other, profile):
    """Refuses what begins in another way, and what runs of a profile went through and is not alike."""
    if not pairs.same_begin:
        raise Unlike(other)
    unlike = pairs.unlike()
    # Edges stand in the order of their blocks.
    for number, count in enumerate(profile[2]):
        if count > 0 and pairs.flow.block_of[number] in unlike:
            raise Unlike(pairs.flow.blocks[pairs.flow.block_of[number]])


def carried(program, other, profile):
    """The profile that the runs of a profile have in the other program."""
    pairs = pairs_of(program, other)
    check_profile(pairs.flow, profile)
    check_alike(pairs, other, profile)
    check_partners(pairs, profile)
    counts = [0] * len(pairs.other_flow.edges)
    waiting = [0] * len(pairs.other_flow.blocks)
    standing = [0] * len(pairs.other_flow.blocks)
    for block, partner in pairs.alike:
        waiting[partner] += profile[3][block]
        standing[partner] += profile[4][block]
        if pairs.alike[(block, partner)]:
            for way, target in pairs.flow.ways[block]:
                number = pairs.flow.number_at[(block, way)]
                counts[pairs.other_flow.number_at[(partner, way)]] += profile[2][number]
    return ("profile", profile[1], counts, waiting, standing)


def check_partners(pairs, profile):
    """Refuses blocks of which a profile tells something, unless just one of the other program goes in step."""
    partners = pairs.partners()
    told = [standing + waiting for waiting, standing in zip(profile[3], profile[4])]
    for number, count in enumerate(profile[2]):
        told[pairs.flow.block_of[number]] += count
    for block, many in enumerate(told):
        if many > 0 and len(partners[block]) != 1:
            raise Unlike(pairs.flow.blocks[block])
