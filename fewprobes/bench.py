"""A bench: a program, probes, and what these tell of recorded runs."""

from fewprobes.cover import least_cover
from fewprobes.edits import carried
from fewprobes.errors import InvalidNumber, NothingToRedo, NothingToUndo, Unlike
from fewprobes.flow import flow_of
from fewprobes.grammar import check_flag
from fewprobes.kinds import is_count
from fewprobes.probes import GREATEST_PRICE, least_probes, probe_numbers, probed_edge, told_back
from fewprobes.profiles import recorded
from fewprobes.runs import Runner, copied
from fewprobes.seen import seen_back, seen_in
from fewprobes.takings import State, both_takings, copied_takings, no_takings, probed_profile, takings_in


class Bench:
    """A program with prices of its edges, probes, and the takings of the runs that were recorded with them."""

    def __init__(self, program):
        flow = flow_of(program)
        self._now = State(copied(program), flow, [1] * len(flow.edges), [], no_takings(flow, []))
        # Each change that stands with the state ahead of it, and each that was taken back with the one behind it.
        self._past = []
        self._coming = []

    def __len__(self):
        return len(self._now.laid)

    def __contains__(self, edge):
        return edge in self._now.laid

    def __eq__(self, other):
        return (
            isinstance(other, Bench) and self._now.code == other._now.code and self._now.costs == other._now.costs
            and self._now.laid == other._now.laid and self._now.taken == other._now.taken
        )

    def program(self):
        """The program."""
        return copied(self._now.code)

    def prices(self):
        """The price of each edge."""
        return list(self._now.costs)

    def probes(self):
        """The probes."""
        return list(self._now.laid)

    def takings(self):
        """How many runs were recorded, how often each probe was gone, and where runs were cut off."""
        return copied_takings(self._now.taken)

    def price(self, edge, price):
        """Sets the price of an edge."""
        now = self._now
        number = probed_edge(now.flow, edge)
        if not is_count(price) or price > GREATEST_PRICE:
            raise InvalidNumber(price)
        costs = list(now.costs)
        costs[number] = price
        self._change(State(now.code, now.flow, costs, now.laid, now.taken), ("price", edge, price))

    def choose(self, probes):
        """Takes other probes."""
        probe_numbers(self._now.flow, probes)
        self._begin_anew(list(probes))

    def choose_least(self, sums, *, cuts=True):
        """Takes the cheapest probes that tell all sums, or those that show all edges."""
        check_flag(sums)
        check_flag(cuts)
        now = self._now
        prices = list(zip(now.flow.edges, now.costs))
        if sums:
            self._begin_anew(least_probes(now.code, prices, cuts))
        else:
            self._begin_anew(least_cover(now.code, prices, cuts))

    def edit(self, program, probes):
        """Turns the bench to an edited program, with the takings that the same runs have there."""
        flow = flow_of(program)
        probe_numbers(flow, probes)
        now = self._now
        runs, numbers, waiting, standing = now.taken
        profile = carried(now.code, program, ("profile", runs, self.sums(), waiting, standing))
        known = dict(zip(now.flow.edges, now.costs))
        costs = [known.get(edge, 1) for edge in flow.edges]
        laid = list(probes)
        code = copied(program)
        self._change(State(code, flow, costs, laid, takings_in(flow, laid, profile)), ("edit", code, laid))

    def record(self, arguments, inputs, most):
        """Records a run that goes through at most so many blocks; what `run` returns of it."""
        runner = Runner(self._now.code, arguments, inputs)
        outcome = runner.go(most)
        self.record_way(runner.trace())
        return (outcome, runner.stack(), runner.printed())

    def record_way(self, way):
        """Records a run along a way."""
        now = self._now
        self._grow(takings_in(now.flow, now.laid, recorded(now.code, way)), ("record", list(way)))

    def take(self, other):
        """Adds the takings of another bench, or once more its own."""
        now = self._now
        if not isinstance(other, Bench) or other._now.code != now.code or other._now.laid != now.laid:
            raise Unlike(other)
        self._grow(other._now.taken, ("take", other._now.taken))

    def sums(self):
        """How often each edge was gone in all runs of the takings."""
        runs, numbers, waiting, standing = self._now.taken
        return told_back(self._now.code, list(self._now.laid), numbers, waiting, standing)

    def seen(self):
        """For each edge "yes", "no" or "open", by which probes were gone at all and where runs were cut off."""
        now = self._now
        return seen_back(now.code, now.laid, seen_in(now.code, now.laid, probed_profile(now)))

    def undo(self):
        """Takes back the last change that stands."""
        if not self._past:
            raise NothingToUndo()
        state, change = self._past.pop()
        self._coming.append((self._now, change))
        self._now = state

    def redo(self):
        """Makes the change again that was taken back last."""
        if not self._coming:
            raise NothingToRedo()
        state, change = self._coming.pop()
        self._past.append((self._now, change))
        self._now = state

    def log(self):
        """The changes that stand, in the order in which they were made."""
        return [copied_change(change) for state, change in self._past]

    def copy(self):
        """Another bench that goes on by itself, with the same changes to take back and to make again."""
        other = Bench(self._now.code)
        other._now = self._now
        other._past = list(self._past)
        other._coming = list(self._coming)
        return other

    def _change(self, state, change):
        self._past.append((self._now, change))
        self._coming = []
        self._now = state

    def _begin_anew(self, laid):
        now = self._now
        self._change(State(now.code, now.flow, now.costs, laid, no_takings(now.flow, laid)), ("choose", laid))

    def _grow(self, taken, change):
        now = self._now
        self._change(State(now.code, now.flow, now.costs, now.laid, both_takings(now.taken, taken)), change)


def copied_change(change):
    """A change that shares no list with others."""
    word = change[0]
    if word == "edit":
        return (word, copied(change[1]), list(change[2]))
    if word == "take":
        return (word, copied_takings(change[1]))
    if word in ("choose", "record"):
        return (word, list(change[1]))
    return change
