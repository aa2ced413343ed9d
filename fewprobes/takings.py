"""What a bench keeps at one time, and what probes tell of runs."""

from fewprobes.profiles import sums


class State:
    """A program, the prices of its edges, probes, and takings; once it is made, nothing of it is changed."""

    def __init__(self, code, flow, costs, laid, taken):
        self.code = code
        self.flow = flow
        self.costs = costs
        self.laid = laid
        self.taken = taken


def no_takings(flow, laid):
    """The takings of no runs."""
    blocks = len(flow.blocks)
    return (0, [0] * len(laid), [0] * blocks, [0] * blocks)


def takings_in(flow, laid, profile):
    """The takings of the runs of a profile."""
    numbers = [profile[2][flow.edge_at[edge]] for edge in laid]
    return (profile[1], numbers, list(profile[3]), list(profile[4]))


def both_takings(taken, other):
    """The takings of all runs of two takings."""
    runs = taken[0] + other[0]
    numbers, waiting, standing = [sums(len(one), [one, two]) for one, two in zip(taken[1:], other[1:])]
    return (runs, numbers, waiting, standing)


def copied_takings(taken):
    """Takings that share no list with others."""
    runs, numbers, waiting, standing = taken
    return (runs, list(numbers), list(waiting), list(standing))


def probed_profile(state):
    """A profile in which the probes alone have the counts of the takings."""
    runs, numbers, waiting, standing = state.taken
    counts = [0] * len(state.flow.edges)
    for edge, many in zip(state.laid, numbers):
        counts[state.flow.edge_at[edge]] = many
    return ("profile", runs, counts, waiting, standing)
