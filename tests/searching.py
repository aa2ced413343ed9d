"""The ways of small programs, told by a plain search over stacks, as far as these are not too deep."""

from makers import next_edges, start_of


def all_marks(program):
    """The edges, and then block by block the pauses."""
    ways = {"go": ["go"], "test": ["yes", "no"], "call": ["call", "value", "fault"], "try": ["call", "value", "fault"],
            "return": ["return"], "raise": ["raise"]}
    blocks = [(function[0], block) for function in program[1] for block in function[2]]
    found = [(name, block[0], way) for name, block in blocks for way in ways[block[2][0]]]
    for name, block in blocks:
        if block[2][0] in ("call", "try"):
            found.append((name, block[0], "waits"))
        found.append((name, block[0], "stands"))
    return found


def paused(state):
    """The marks that a way has because it is cut off."""
    stack, due = state
    return [place + ("waits",) for place in stack[:-1]] + [place + ("stands",) for place in stack[-1:]]


def marks_had(program, way, stack):
    """The marks of a way with this stack behind it."""
    had = set(way) | set(paused((tuple(stack), None)))
    return [mark for mark in all_marks(program) if mark in had]


class Search:
    """All ways that count without marks that are gone, whose stacks are at most so deep."""

    def __init__(self, program, gone, cuts, deepest):
        self.program, self.gone, self.cuts = program, set(gone), cuts
        start = start_of(program)
        self.ahead = {start: 0}
        self.steps = []
        waiting = [start]
        for state in waiting:
            for edge, after in next_edges(program, state):
                if edge in self.gone or len(after[0]) > deepest:
                    continue
                self.steps.append((state, edge, after))
                if after not in self.ahead:
                    self.ahead[after] = self.ahead[state] + 1
                    waiting.append(after)
        self.behind = self.told_behind()

    def counts(self, state):
        """Whether a way may end here."""
        stack, due = state
        if due is not None:
            return False
        return not stack or (self.cuts and not self.gone & set(paused(state)))

    def told_behind(self):
        found = {state: 0 for state in self.ahead if self.counts(state)}
        back = {}
        for state, edge, after in self.steps:
            back.setdefault(after, []).append(state)
        waiting = list(found)
        for state in waiting:
            for ahead in back.get(state, []):
                if ahead not in found:
                    found[ahead] = found[state] + 1
                    waiting.append(ahead)
        return found

    def lengths(self):
        """For each mark that some way has the number of edges of the shortest one."""
        found = {}
        for state, edge, after in self.steps:
            if after in self.behind:
                length = self.ahead[state] + 1 + self.behind[after]
                found[edge] = min(found.get(edge, length), length)
        for state in self.ahead:
            if self.counts(state):
                for mark in paused(state):
                    found[mark] = min(found.get(mark, self.ahead[state]), self.ahead[state])
        return found

    def live(self):
        found = self.lengths()
        return [mark for mark in all_marks(self.program) if mark in found]
