"""The statements of a source by their numbers, with what comes behind each of them."""

from fewprobes.sources import how_many_in

# Stands for the end of a function, where the number of a statement could stand.
END = -1
# Stands for no statement at all.
NO_STATEMENT = -2


class Around:
    """What is around rows: where they go on, and the while and the try in which they stand."""

    def __init__(self, behind, loop, catcher):
        self.behind = behind
        self.loop = loop
        self.catcher = catcher


class Stand:
    """Where a statement stands: what comes behind it, and where its rows lead."""

    def __init__(self, number, statement, function, ahead, around):
        self.number = number
        self.statement = statement
        self.function = function
        # The word of the statement directly ahead in its rows, "" if it is the first one.
        self.ahead = ahead
        # The statement that comes behind, and the innermost while and try (in its rows) around.
        self.behind = around.behind
        self.loop = around.loop
        self.catcher = around.catcher
        # The statements to which the rows and the others lead.
        self.rows = NO_STATEMENT
        self.others = NO_STATEMENT


class Layout:
    """All statements of a source in order, and the first one of each function."""

    def __init__(self, source):
        self.stands = []
        self.firsts = []
        self.names = [name for name, parameters, rows in source[1]]
        self.parameters = {name: list(parameters) for name, parameters, rows in source[1]}
        self.function_at = {name: f for f, name in enumerate(self.names)}
        for f, (name, parameters, rows) in enumerate(source[1]):
            self.firsts.append(self.lay(rows, f, Around(END, NO_STATEMENT, NO_STATEMENT)))

    def lay(self, rows, function, around):
        """Lays out rows; returns the statement to which they lead."""
        first = len(self.stands) if rows else around.behind
        ahead = ""
        for at, statement in enumerate(rows):
            number = len(self.stands)
            behind = number + how_many_in([statement]) if at + 1 < len(rows) else around.behind
            own = Around(behind, around.loop, around.catcher)
            stand = Stand(number, statement, function, ahead, own)
            self.stands.append(stand)
            self.lay_within(stand, own)
            ahead = statement[0]
        return first

    def lay_within(self, stand, own):
        """Lays out what stands within a statement."""
        word = stand.statement[0]
        if word == "if":
            stand.rows = self.lay(stand.statement[2], stand.function, own)
            stand.others = self.lay(stand.statement[3], stand.function, own)
        elif word == "while":
            inner = Around(stand.number, stand.number, own.catcher)
            stand.rows = self.lay(stand.statement[2], stand.function, inner)
        elif word == "try":
            inner = Around(own.behind, own.loop, stand.number)
            stand.rows = self.lay(stand.statement[1], stand.function, inner)
            stand.others = self.lay(stand.statement[3], stand.function, own)
