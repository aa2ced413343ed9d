"""Values for the tests; each call makes new ones, so that no test can spoil another one's."""

from fewprobes.errors import InvalidProgram, NothingToUndo, ProbeError


def nested(depth, as_list):
    value = "x"
    for _ in range(depth):
        value = [value] if as_list else (value,)
    return value


def odd_values():
    """Values of each kind that may be handed in."""
    return [
        None, True, False, 0, 1, -1, 7, 10 ** 30 - 1, 1 - 10 ** 30,
        "", "x", "n1", "Upper", "call", "a_b", "a b", "~", "program", "source", "number", "go",
        [], (), {}, [[]], ((),), ["x"], ("x",), [None], ({},), {"x": 1}, {("x",): [()]},
        ("x", 1, []), ["x", [], ()], ("number", 1), ("name", "x"), ("go", "a"), ("leave",),
        nested(29, True), nested(29, False), {"x": nested(28, True)},
        ProbeError(), InvalidProgram([1]), NothingToUndo(),
    ]


def each_place(value, path=()):
    """The paths to all things within a value of tuples and lists, and to the value itself."""
    yield path
    if isinstance(value, (tuple, list)):
        for k, item in enumerate(value):
            yield from each_place(item, path + (k,))


def with_put(value, path, thing):
    """A copy of a value with a thing at the end of a path."""
    if not path:
        return thing
    items = [with_put(item, path[1:], thing) if k == path[0] else item for k, item in enumerate(value)]
    return items if isinstance(value, list) else tuple(items)


def at(value, path):
    for k in path:
        value = value[k]
    return value


def swapped(value):
    """A list for a tuple, a tuple for a list."""
    return tuple(value) if isinstance(value, list) else list(value)


def many_words(many, start="w"):
    """Unlike words with digits."""
    return [f"{start}{k}" for k in range(many)]


def many_plain_words(many):
    """At most 26 unlike words without digits."""
    return ["p" + letter for letter in "abcdefghijklmnopqrstuvwxyz"[:many]]


def full_program():
    """A program with each kind of step and of end, of two functions with 0 and 6 parameters."""
    steps = [
        ("set", "x", -3), ("copy", "y", "x"), ("deed", "z", "plus", "x", "y"), ("read", "n1"),
        ("print", "z"), ("count", 0), ("count", 999),
    ]
    main = ("main", [], [
        ("top", steps, ("test", "x", "job", "done")),
        ("job", [("set", "x", 0)], ("call", "y", "f", ("x", "x", "y", "z", "x", "x"), "hold")),
        ("hold", [], ("try", "y", "main", (), "top", "z", "bad")),
        ("bad", [("print", "z")], ("raise", "z")),
        ("skip", [], ("go", "done")),
        ("done", [], ("return", "y")),
    ])
    other = ("f", ["a", "b", "c", "d", "e", "f"], [("top", [], ("return", "a"))])
    return ("program", [main, other])


def full_source():
    """A source with each statement and each expression."""
    half = ("over", ("name", "n"), ("number", 2))
    deep = ("plus", ("minus", ("name", "n"), ("number", 0)), ("times", half, ("rest", ("name", "m"), ("name", "n"))))
    inner = [
        ("if", ("same", ("name", "n"), ("number", 3)), [("again",)], [("leave",)]),
        ("while", ("number", 1), []),
    ]
    main = ("main", ["n", "m"], [
        ("set", "x", deep),
        ("read", "m"),
        ("print", ("less", ("name", "m"), ("name", "x"))),
        ("while", ("name", "x"), [
            ("try", inner, "bad", [("leave",), ("print", ("name", "bad"))]),
            ("call", "x", "half", [half]),
        ]),
        ("call", "x", "main", [("name", "x"), deep]),
        ("return", ("name", "x")),
    ])
    other = ("half", ["n"], [("if", ("name", "n"), [("raise", ("name", "n"))], []), ("call", "n", "none", [])])
    return ("source", [main, other, ("none", [], [])])


def of_blocks(blocks, name="main", parameters=()):
    """A program of one function."""
    return ("program", [(name, list(parameters), blocks)])


def of_rows(rows, parameters=()):
    """A source of one function."""
    return ("source", [("main", list(parameters), rows)])
