"""Runs of sources, statement by statement."""

from fewprobes.errors import InvalidList, InvalidNumber, InvalidProgram
from fewprobes.kinds import are_whole, is_count
from fewprobes.layout import END, NO_STATEMENT, Layout
from fewprobes.signs import worth
from fewprobes.sources import is_source

MOST_BEGUN = 10000


def source_run(source, arguments, inputs, most):
    """The outcome, the printed numbers and the begun statements of a run that begins at most so many."""
    if not is_source(source):
        raise InvalidProgram(source)
    if not are_whole(arguments) or len(arguments) != len(source[1][0][1]):
        raise InvalidList(arguments)
    if not are_whole(inputs):
        raise InvalidList(inputs)
    if not is_count(most) or most > MOST_BEGUN:
        raise InvalidNumber(most)
    machine = Machine(Layout(source), arguments, inputs)
    while machine.outcome is None and len(machine.begun) < most:
        machine.begin()
    outcome = ("on",) if machine.outcome is None else machine.outcome
    return (outcome, machine.shown, machine.begun)


class Machine:
    """A run of a source."""

    def __init__(self, layout, arguments, inputs):
        self.layout = layout
        # The names of each call that goes on, and the statements that called, one less.
        self.calls = [dict(zip(layout.parameters[layout.names[0]], arguments))]
        self.callers = []
        # The last one is read next.
        self.inputs = inputs[::-1]
        self.shown = []
        self.begun = []
        self.outcome = None
        self.here = END
        self.go_to(layout.firsts[0])

    def go_to(self, number):
        """Goes on with a statement; at the end of a function with what comes behind its call."""
        self.here = number
        if number == END:
            self.come_back(0)

    def begin(self):
        """Begins the next statement."""
        stand = self.layout.stands[self.here]
        self.begun.append(stand.number)
        statement = stand.statement
        word = statement[0]
        if word == "call":
            self.call(stand)
        elif word == "return":
            self.come_back(self.told(statement[1]))
        elif word == "raise":
            self.fault(stand, self.told(statement[1]))
        else:
            self.go_to(self.led_by(stand, word))

    def led_by(self, stand, word):
        """Does a statement that stays in its function; the statement to which it leads."""
        statement = stand.statement
        if word == "if":
            return stand.others if self.told(statement[1]) == 0 else stand.rows
        if word == "while":
            return stand.behind if self.told(statement[1]) == 0 else stand.rows
        if word == "try":
            return stand.rows
        if word == "again":
            return stand.loop
        if word == "leave":
            return self.layout.stands[stand.loop].behind
        if word == "print":
            self.shown.append(self.told(statement[1]))
        elif word == "read":
            self.calls[-1][statement[1]] = self.inputs.pop() if self.inputs else 0
        else:
            self.calls[-1][statement[1]] = self.told(statement[2])
        return stand.behind

    def call(self, stand):
        """Begins a call."""
        word, into, name, given = stand.statement
        numbers = [self.told(expression) for expression in given]
        self.calls.append(dict(zip(self.layout.parameters[name], numbers)))
        self.callers.append(stand)
        self.go_to(self.layout.firsts[self.layout.function_at[name]])

    def come_back(self, number):
        """Ends the last call with a value, and those, too, that end behind it at once."""
        while True:
            self.calls.pop()
            if not self.callers:
                self.outcome = ("value", number)
                return
            stand = self.callers.pop()
            self.calls[-1][stand.statement[1]] = number
            self.here = stand.behind
            if self.here != END:
                return
            number = 0

    def fault(self, stand, number):
        """Goes on behind a fault that is told by a statement."""
        while stand.catcher == NO_STATEMENT:
            self.calls.pop()
            if not self.callers:
                self.outcome = ("fault", number)
                return
            stand = self.callers.pop()
        catcher = self.layout.stands[stand.catcher]
        self.calls[-1][catcher.statement[2]] = number
        self.go_to(catcher.others)

    def told(self, expression):
        """What an expression tells."""
        numbers = []
        waiting = [expression]
        while waiting:
            part = waiting.pop()
            if part[0] == "number":
                numbers.append(part[1])
            elif part[0] == "name":
                numbers.append(self.calls[-1].get(part[1], 0))
            elif len(part) == 3:
                # Behind both of its expressions the sign alone is waited for.
                waiting.extend([(part[0],), part[2], part[1]])
            else:
                z = numbers.pop()
                numbers[-1] = worth(part[0], numbers[-1], z)
        return numbers.pop()
