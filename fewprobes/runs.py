"""Runs of programs, and what they leave."""

from fewprobes.errors import InvalidList, InvalidNumber
from fewprobes.flow import edge_numbers, flow_of
from fewprobes.kinds import are_whole, is_count
from fewprobes.signs import worth

MOST_GONE = 20000


def run(program, arguments, inputs, most):
    """The outcome, the stack and the printed numbers of a run that goes through at most so many blocks."""
    runner = Runner(program, arguments, inputs)
    outcome = runner.go(most)
    return (outcome, runner.stack(), runner.printed())


def trace(program, arguments, inputs, most):
    """The edges that a run goes along that goes through at most so many blocks."""
    runner = Runner(program, arguments, inputs)
    runner.go(most)
    return runner.trace()


def counters(program, arguments, inputs, most):
    """The counters that aren't 0 of a run that goes through at most so many blocks."""
    runner = Runner(program, arguments, inputs)
    runner.go(most)
    return runner.counters()


def counts(program, way):
    """How often each edge of a program stands in a list of its edges."""
    flow = flow_of(program)
    numbers = edge_numbers(flow, way)
    if numbers is None:
        raise InvalidList(way)
    found = [0] * len(flow.edges)
    for number in numbers:
        found[number] += 1
    return found


class Runner:
    """A run of a program that goes on block by block."""

    def __init__(self, program, arguments, inputs):
        self._flow = flow_of(program)
        if not are_whole(arguments) or len(arguments) != len(program[1][0][1]):
            raise InvalidList(arguments)
        if not are_whole(inputs):
            raise InvalidList(inputs)
        self._program = copied(program)
        self._steps = [block[1] for function in self._program[1] for block in function[2]]
        # The blocks whose calls go on and the one that comes next, and the names of each of these calls.
        self._blocks = [self._flow.firsts[0]]
        self._calls = [dict(zip(self._program[1][0][1], arguments))]
        # The last one is read next.
        self._inputs = inputs[::-1]
        self._printed = []
        self._counters = {}
        self._trace = []
        self.many = 0
        self.outcome = None

    def __eq__(self, other):
        return (
            isinstance(other, Runner) and self._program == other._program and self._blocks == other._blocks
            and self._calls == other._calls and self._inputs == other._inputs and self._printed == other._printed
            and self._counters == other._counters and self.outcome == other.outcome and self._trace == other._trace
        )

    def step(self):
        """Goes through one block, if the run has not ended; the outcome, None as long as there is none."""
        if self.outcome is None:
            block = self._blocks[-1]
            names = self._calls[-1]
            for step in self._steps[block]:
                self._do(step, names)
            self._end(block, self._flow.ends[block], names)
            self.many += 1
        return self.outcome

    def go(self, most):
        """Goes through at most so many blocks; the outcome, ("on",) if the run has not ended."""
        if not is_count(most) or most > MOST_GONE:
            raise InvalidNumber(most)
        for _ in range(most):
            if self.outcome is not None:
                break
            self.step()
        return ("on",) if self.outcome is None else self.outcome

    def stack(self):
        """The blocks whose calls go on, and last the one that is gone through next."""
        return [self._flow.blocks[block] for block in self._blocks]

    def printed(self):
        """The numbers that were printed."""
        return list(self._printed)

    def trace(self):
        """The edges that were gone."""
        return [self._flow.edges[number] for number in self._trace]

    def counters(self):
        """The counters that aren't 0, in order, each with its number."""
        return sorted(list(self._counters.items()))

    def copy(self):
        """Another run that has come as far, and goes on by itself."""
        first = self._program[1][0]
        other = Runner(self._program, [0] * len(first[1]), self._inputs[::-1])
        other._blocks = list(self._blocks)
        other._calls = [dict(names) for names in self._calls]
        other._printed = list(self._printed)
        other._counters = dict(self._counters)
        other._trace = list(self._trace)
        other.many = self.many
        other.outcome = self.outcome
        return other

    def _do(self, step, names):
        word = step[0]
        if word == "deed":
            names[step[1]] = worth(step[2], names.get(step[3], 0), names.get(step[4], 0))
        elif word == "copy":
            names[step[1]] = names.get(step[2], 0)
        elif word == "set":
            names[step[1]] = step[2]
        elif word == "read":
            names[step[1]] = self._inputs.pop() if self._inputs else 0
        elif word == "print":
            self._printed.append(names.get(step[1], 0))
        else:
            self._counters[step[1]] = self._counters.get(step[1], 0) + 1

    def _end(self, block, end, names):
        word = end[0]
        if word == "test":
            self._along(block, "no" if names.get(end[1], 0) == 0 else "yes")
        elif word in ("call", "try"):
            self._call(block, end, names)
        else:
            self._along(block, word)
            if word == "return":
                self._come_back("value", names.get(end[1], 0))
            elif word == "raise":
                self._come_back("fault", names.get(end[1], 0))

    def _along(self, block, way):
        number = self._flow.number_at[(block, way)]
        self._trace.append(number)
        self._blocks[-1] = self._flow.target_of[number]

    def _call(self, block, end, names):
        number = self._flow.number_at[(block, "call")]
        self._trace.append(number)
        self._blocks.append(self._flow.target_of[number])
        parameters = self._program[1][self._flow.called[block]][1]
        self._calls.append(dict(zip(parameters, [names.get(name, 0) for name in end[3]])))

    def _come_back(self, way, number):
        """Ends the last call with a number, and all those that a fault ends, too."""
        self._blocks.pop()
        self._calls.pop()
        while self._blocks:
            block = self._blocks[-1]
            end = self._flow.ends[block]
            self._along(block, way)
            if way == "value" or end[0] == "try":
                self._calls[-1][end[1] if way == "value" else end[5]] = number
                return
            self._blocks.pop()
            self._calls.pop()
        self.outcome = (way, number)


def copied(program):
    """A copy of a program that shares no list with it."""
    functions = []
    for name, parameters, blocks in program[1]:
        functions.append((name, list(parameters), [(label, list(steps), end) for label, steps, end in blocks]))
    return (program[0], functions)
