"""Where the count steps of probes stand in a program that is rebuilt with them."""

from fewprobes.blocks import WAYS
from fewprobes.flow import NONE

# The places of the names in steps and ends, beside those that a call hands over.
NAMED = {
    "set": (1,),
    "copy": (1, 2),
    "deed": (1, 3, 4),
    "read": (1,),
    "print": (1,),
    "count": (),
    "go": (),
    "test": (1,),
    "call": (1,),
    "try": (1, 5),
    "return": (1,),
    "raise": (1,),
}

# The ways whose probes stand in a block of their own.
APART = ("yes", "no", "value", "fault")


class Plan:
    """The counters, new labels and new names that probes need in a program."""

    def __init__(self, program, flow, numbers):
        self.flow = flow
        self.steps = [block[1] for function in program[1] for block in function[2]]
        self.parameters = [function[1] for function in program[1]]
        used = [step[1] for steps in self.steps for step in steps if step[0] == "count"]
        self.first = max(used) + 1 if used else 0
        # The counter of each probe.
        self.counter_of = {number: self.first + at for at, number in enumerate(numbers)}
        # The label of the new block of each probe that needs one, by functions in the order of edges.
        self.label_of = {}
        self.apart = [[] for _ in flow.names]
        for number in sorted(numbers):
            if flow.way_of[number] in APART:
                self.apart[self.owner_of(number)].append(number)
        for function, group in enumerate(self.apart):
            taken = {label: True for name, label in flow.blocks if name == flow.names[function]}
            for number, label in zip(group, fresh_words(taken, len(group))):
                self.label_of[number] = label
        # The probe of each new block.
        self.probe_at = {(flow.names[self.owner_of(number)], self.label_of[number]): number
                         for number in self.label_of}

    def owner_of(self, number):
        """The function of an edge."""
        return self.flow.function_of[self.flow.block_of[number]]

    def sizes(self):
        """How many blocks each function has in the rebuilt program."""
        found = [len(group) for group in self.apart]
        for function in self.flow.function_of:
            found[function] += 1
        return found

    def is_block(self, value):
        """Whether a value is the tuple of a function and a label in the rebuilt program."""
        if not isinstance(value, tuple) or not all([isinstance(word, str) for word in value]):
            return False
        return value in self.flow.block_at or value in self.probe_at

    def functions(self):
        """The functions of the rebuilt program."""
        blocks = [[] for _ in self.flow.names]
        for block, function in enumerate(self.flow.function_of):
            blocks[function].append(self.own_block(block))
        found = []
        for function, name in enumerate(self.flow.names):
            added = [self.new_block(number) for number in self.apart[function]]
            found.append((name, list(self.parameters[function]), [*blocks[function], *added]))
        return found

    def own_block(self, block):
        """A block of the program with the count step of a probe behind its steps, and with its end led anew."""
        name, label = self.flow.blocks[block]
        added = []
        for way, target in self.flow.ways[block]:
            number = self.flow.number_at[(block, way)]
            if number in self.counter_of and number not in self.label_of:
                added.append(self.step_of(number))
        return (label, [*self.steps[block], *added], self.own_end(block))

    def own_end(self, block):
        """The end of a block that leads to new blocks where probes are set."""
        end = self.flow.ends[block]
        if end[0] == "call" and self.flow.number_at[(block, "fault")] in self.label_of:
            end = ("try", *end[1:], self.fault_name(self.flow.function_of[block]), "")
        parts = list(end)
        for way, at in WAYS[end[0]]:
            number = self.flow.number_at[(block, way)]
            if number in self.label_of:
                parts[at] = self.label_of[number]
        return tuple(parts)

    def new_block(self, number):
        """The new block of a probe."""
        target = self.flow.target_of[number]
        if target == NONE:
            end = ("raise", self.fault_name(self.owner_of(number)))
        else:
            end = ("go", self.flow.blocks[target][1])
        return (self.label_of[number], [self.step_of(number)], end)

    def step_of(self, number):
        """The count step of a probe."""
        return ("count", self.counter_of[number])

    def fault_name(self, function):
        """The name into which the calls of a function put faults that are only passed on."""
        taken = {name: True for name in self.parameters[function]}
        for block, own in enumerate(self.flow.function_of):
            if own == function:
                for part in [*self.steps[block], self.flow.ends[block]]:
                    for name in names_in(part):
                        taken[name] = True
        return fresh_words(taken, 1)[0]


def names_in(part):
    """The names in a step or an end."""
    found = [part[at] for at in NAMED[part[0]]]
    return [*found, *part[3]] if part[0] in ("call", "try") else found


def fresh_words(taken, many):
    """So many of the words c0, c1 and so on, the first ones that are not taken."""
    found = []
    at = 0
    while len(found) < many:
        word = f"c{at}"
        if word not in taken:
            found.append(word)
        at += 1
    return found
