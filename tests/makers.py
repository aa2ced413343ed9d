"""Programs, ways and sources made by chance from a seed, and what they do, told in other words than the package's."""

import random
from fractions import Fraction

LEAVINGS = ["value", "fault", "cut"]


def chance(seed):
    return random.Random(seed)


def some_program(dice, functions=3, blocks=4):
    """A program of a few small functions, with all kinds of ends; names of numbers are few."""
    names = [f"f{k}" for k in range(dice.randint(1, functions))]
    many = {name: dice.randint(0, 2) for name in names}
    made = []
    for name in names:
        labels = [f"b{k}" for k in range(dice.randint(1, blocks))]
        held = []
        for label in labels:
            steps = [some_step(dice) for _ in range(dice.randint(0, 3))]
            held.append((label, steps, some_end(dice, labels, many)))
        made.append((name, [f"p{k}" for k in range(many[name])], held))
    return ("program", made)


def some_name(dice):
    return dice.choice(["x", "y", "p0", "p1"])


def some_step(dice):
    word = dice.choice(["set", "copy", "deed", "read", "print", "count"])
    x, y, z = [some_name(dice) for _ in range(3)]
    sign = dice.choice(["plus", "minus", "over", "rest", "less", "same"])
    return {
        "set": ("set", x, dice.randint(-3, 3)), "copy": ("copy", x, y), "deed": ("deed", x, sign, y, z),
        "read": ("read", x), "print": ("print", x), "count": ("count", dice.choice([0, 3, 999])),
    }[word]


def some_end(dice, labels, many):
    word = dice.choice(["go", "test", "test", "call", "try", "return", "return", "raise"])
    x, y = [some_name(dice) for _ in range(2)]
    to, other = [dice.choice(labels) for _ in range(2)]
    name = dice.choice(list(many))
    given = tuple(some_name(dice) for _ in range(many[name]))
    return {
        "go": ("go", to), "test": ("test", x, to, other), "call": ("call", x, name, given, to),
        "try": ("try", x, name, given, to, y, other), "return": ("return", x), "raise": ("raise", x),
    }[word]


def block_in(program, name, label):
    for function in program[1]:
        if function[0] == name:
            for block in function[2]:
                if block[0] == label:
                    return block
    raise KeyError((name, label))


def first_of(program, name):
    return [function[2][0][0] for function in program[1] if function[0] == name][0]


def next_edges(program, state):
    """The ways to go on from (stack of places, due), each with the state behind it."""
    stack, due = state
    if not stack:
        return []
    name, label = stack[-1]
    end = block_in(program, name, label)[2]
    below = stack[:-1]

    def ended(how):
        return (below, how if below else None)

    if due == "value":
        return [((name, label, "value"), (below + ((name, end[4]),), None))]
    if due == "fault" and end[0] == "try":
        return [((name, label, "fault"), (below + ((name, end[6]),), None))]
    if due == "fault":
        return [((name, label, "fault"), ended("fault"))]
    if end[0] == "go":
        return [((name, label, "go"), (below + ((name, end[1]),), None))]
    if end[0] == "test":
        return [((name, label, way), (below + ((name, end[at]),), None)) for way, at in [("yes", 2), ("no", 3)]]
    if end[0] in ("call", "try"):
        return [((name, label, "call"), (stack + ((end[2], first_of(program, end[2])),), None))]
    if end[0] == "return":
        return [((name, label, "return"), ended("value"))]
    return [((name, label, "raise"), ended("fault"))]


def start_of(program):
    name = program[1][0][0]
    return (((name, first_of(program, name)),), None)


def all_ways(program, longest, most=4000):
    """All ways of at most so many edges, each with the stack behind it, as far as they are not too many."""
    found = []
    states = [([], start_of(program))]
    while states:
        coming = []
        for way, state in states:
            if state[1] is None:
                found.append((way, list(state[0])))
            if len(way) < longest:
                coming.extend((way + [edge], after) for edge, after in next_edges(program, state))
        if len(found) > most:
            break
        states = coming
    return found


def some_way(program, dice, longest):
    """A way of about so many edges, and the stack behind it."""
    way, state = [], start_of(program)
    while state[1] is not None or len(way) < longest:
        after = next_edges(program, state)
        if not after:
            break
        edge, state = dice.choice(after)
        way.append(edge)
    return way, list(state[0])


def sums_of(program, edges, ways):
    """The sums of ways at edges, how often calls wait and how often ways stand at each block."""
    blocks = [(function[0], block[0]) for function in program[1] for block in function[2]]
    numbers = {edge: 0 for edge in edges}
    waiting = {block: 0 for block in blocks}
    standing = {block: 0 for block in blocks}
    for way, stack in ways:
        for edge in way:
            numbers[edge] += 1
        for block in stack[:-1]:
            waiting[block] += 1
        for block in stack[-1:]:
            standing[block] += 1
    return [numbers[edge] for edge in edges], list(waiting.values()), list(standing.values())


def rank(rows):
    """The rank of rows of whole numbers."""
    rows = [[Fraction(number) for number in row] for row in rows]
    found = 0
    width = len(rows[0]) if rows else 0
    for column in range(width):
        at = next((k for k in range(found, len(rows)) if rows[k][column]), None)
        if at is None:
            continue
        rows[found], rows[at] = rows[at], rows[found]
        top = rows[found]
        for k in range(found + 1, len(rows)):
            if rows[k][column]:
                times = rows[k][column] / top[column]
                rows[k] = [number - times * less for number, less in zip(rows[k], top)]
        found += 1
    return found


def some_source(dice, functions=3, deep=3):
    """A source of a few small functions, with all kinds of statements; names are few."""
    names = ["f", "g", "h"][:dice.randint(1, functions)]
    many = {name: dice.randint(0, 2) for name in names}
    made = []
    for name in names:
        left = [dice.randint(0, 12)]
        made.append((name, ["a", "b"][:many[name]], some_rows(dice, many, left, deep, False)))
    return ("source", made)


def some_rows(dice, many, left, deep, looped):
    rows = []
    for _ in range(dice.choice([0, 1, 2, 3, 4])):
        if left[0] == 0:
            break
        left[0] -= 1
        rows.append(some_statement(dice, many, left, deep, looped))
    return rows


def some_statement(dice, many, left, deep, looped):
    words = ["set", "set", "read", "print", "call", "call", "return", "raise"]
    words += ["if", "while", "try", "try"] if deep else []
    words += ["leave", "again"] if looped else []
    word = dice.choice(words)
    x, e = dice.choice("abxy"), some_expression(dice, 3)
    if word == "set":
        return ("set", x, e)
    if word == "read":
        return ("read", x)
    if word == "call":
        name = dice.choice(list(many))
        return ("call", x, name, [some_expression(dice, 2) for _ in range(many[name])])
    if word in ("leave", "again"):
        return (word,)
    if word in ("print", "return", "raise"):
        return (word, e)
    rows = some_rows(dice, many, left, deep - 1, looped or word == "while")
    if word == "while":
        return ("while", e, rows)
    others = some_rows(dice, many, left, deep - 1, looped)
    return ("if", e, rows, others) if word == "if" else ("try", rows, x, others)


def some_expression(dice, deep):
    if deep == 0 or dice.random() < 0.4:
        return dice.choice([("number", dice.choice([0, 1, 2, 7])), ("name", dice.choice("abxy"))])
    sign = dice.choice(["plus", "minus", "over", "rest", "less", "same"])
    return (sign, some_expression(dice, deep - 1), some_expression(dice, deep - 1))


class Stopped(Exception):
    pass


class Left(Exception):
    pass


class Again(Exception):
    pass


class Returned(Exception):
    pass


class Raised(Exception):
    pass


def numbered(rows, counter):
    """Statements as lists with their numbers ahead, those within them likewise."""
    found = []
    for statement in rows:
        number = counter[0]
        counter[0] += 1
        parts = [numbered(part, counter) if isinstance(part, list) and statement[0] != "call" else part
                 for part in statement]
        found.append([number] + parts)
    return found


def reckoned(sign, y, z):
    quotient = 0 if z == 0 else y // z
    return {
        "plus": y + z, "minus": y - z, "times": y * z, "over": quotient, "rest": y - z * quotient,
        "less": int(y < z), "same": int(y == z),
    }[sign]


class Teller:
    """A run of a source, told by Python's own calls and errors."""

    def __init__(self, source, inputs, most):
        counter = [0]
        self.functions = {}
        for name, parameters, rows in source[1]:
            self.functions[name] = (parameters, numbered(rows, counter))
        self.inputs, self.most = list(inputs), most
        self.printed, self.begun = [], []

    def told(self, e, names):
        if e[0] == "number":
            return e[1]
        if e[0] == "name":
            return names.get(e[1], 0)
        return reckoned(e[0], self.told(e[1], names), self.told(e[2], names))

    def call(self, name, numbers):
        parameters, rows = self.functions[name]
        try:
            self.rows(rows, dict(zip(parameters, numbers)))
        except Returned as told:
            return told.args[0]
        return 0

    def rows(self, rows, names):
        for statement in rows:
            self.statement(statement, names)

    def begin(self, number):
        if len(self.begun) == self.most:
            raise Stopped
        self.begun.append(number)

    def statement(self, statement, names):
        number, word, *parts = statement
        self.begin(number)
        if word == "set":
            names[parts[0]] = self.told(parts[1], names)
        elif word == "read":
            names[parts[0]] = self.inputs.pop(0) if self.inputs else 0
        elif word == "print":
            self.printed.append(self.told(parts[0], names))
        elif word == "call":
            names[parts[0]] = self.call(parts[1], [self.told(e, names) for e in parts[2]])
        elif word == "if":
            self.rows(parts[1] if self.told(parts[0], names) else parts[2], names)
        elif word == "while":
            self.loop(number, parts, names)
        elif word == "try":
            try:
                self.rows(parts[0], names)
            except Raised as told:
                names[parts[1]] = told.args[0]
                self.rows(parts[2], names)
        else:
            kind = {"leave": Left, "again": Again, "return": Returned, "raise": Raised}[word]
            raise kind(*[self.told(e, names) for e in parts])

    def loop(self, number, parts, names):
        while self.told(parts[0], names):
            try:
                self.rows(parts[1], names)
            except Again:
                pass
            except Left:
                return
            self.begin(number)


def told_run(source, arguments, inputs, most):
    """What source_run returns, told by a Teller."""
    teller = Teller(source, inputs, most)
    try:
        outcome = ("value", teller.call(source[1][0][0], arguments))
    except Raised as told:
        outcome = ("fault", told.args[0])
    except Stopped:
        outcome = ("on",)
    return (outcome, teller.printed, teller.begun)


class Stepper:
    """A run of a program of blocks, told by a walk over next_edges with numbers beside it."""

    def __init__(self, program, arguments, inputs):
        self.program, self.inputs = program, list(inputs)
        self.state = start_of(program)
        self.frames = [dict(zip(program[1][0][1], arguments))]
        self.printed, self.counts, self.way, self.outcome = [], {}, [], None

    def goes_through(self):
        name, label = self.state[0][-1]
        block = block_in(self.program, name, label)
        for step in block[1]:
            self.does(step, self.frames[-1])
        end, names = block[2], self.frames[-1]
        ways = next_edges(self.program, self.state)
        if end[0] == "test":
            ways = ways[:1] if names.get(end[1], 0) else ways[1:]
        edge, self.state = ways[0]
        self.way.append(edge)
        if end[0] in ("call", "try"):
            parameters = [function[1] for function in self.program[1] if function[0] == end[2]][0]
            self.frames.append({x: names.get(y, 0) for x, y in zip(parameters, end[3])})
        elif end[0] in ("return", "raise"):
            self.comes_back(names.get(end[1], 0))

    def comes_back(self, number):
        kind = "value" if self.way[-1][2] == "return" else "fault"
        while self.state[0] and self.state[1]:
            self.frames.pop()
            end = block_in(self.program, *self.state[0][-1])[2]
            edge, self.state = next_edges(self.program, self.state)[0]
            self.way.append(edge)
            if self.state[1] is None and self.state[0]:
                self.frames[-1][end[1] if kind == "value" else end[5]] = number
        if not self.state[0]:
            self.outcome = (kind, number)

    def does(self, step, names):
        word = step[0]
        if word == "print":
            self.printed.append(names.get(step[1], 0))
        elif word == "count":
            self.counts[step[1]] = self.counts.get(step[1], 0) + 1
        elif word == "read":
            names[step[1]] = self.inputs.pop(0) if self.inputs else 0
        else:
            names[step[1]] = {
                "set": lambda: step[2], "copy": lambda: names.get(step[2], 0),
                "deed": lambda: reckoned(step[2], names.get(step[3], 0), names.get(step[4], 0)),
            }[word]()


def stepped(program, arguments, inputs, most):
    """A Stepper that has gone through at most so many blocks."""
    stepper = Stepper(program, arguments, inputs)
    for _ in range(most):
        if stepper.outcome is None:
            stepper.goes_through()
    return stepper
