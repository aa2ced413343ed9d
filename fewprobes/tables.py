"""The table that texts of sources follow, and what a text tells by it."""

from fewprobes.tokens import tokens_of

# What the rows of the table, in capital letters, are made of, told by the kind of the token with which they begin,
# "" for all other kinds. A tuple among it is something to be done with the values that were kept before.
RULES = {
    ("SOURCE", "fun"): (("new",), "FUNCTION", ("put",), "FUNCTIONS", ("make", "source", 1), "ending"),
    ("FUNCTIONS", "fun"): ("FUNCTION", ("put",), "FUNCTIONS"),
    ("FUNCTIONS", ""): (),
    ("FUNCTION", "fun"): ("fun", "word", "(", ("new",), "NAMES", ")", "BLOCK", ("make", "", 3)),
    ("NAMES", "word"): ("word", ("put",), "FURTHER NAMES"),
    ("NAMES", ""): (),
    ("FURTHER NAMES", ","): (",", "word", ("put",), "FURTHER NAMES"),
    ("FURTHER NAMES", ""): (),
    ("BLOCK", "{"): ("{", ("new",), "STATEMENTS", "}"),
    ("STATEMENTS", "}"): (),
    ("STATEMENTS", ""): ("STATEMENT", ("put",), "STATEMENTS"),
    ("STATEMENT", "word"): ("word", "=", "RIGHT SIDE", ";"),
    ("RIGHT SIDE", "call"): ("call", "word", "(", ("new",), "GIVEN", ")", ("make", "call", 3)),
    ("RIGHT SIDE", ""): ("EXPRESSION", ("make", "set", 2)),
    ("STATEMENT", "read"): ("read", "word", ";", ("make", "read", 1)),
    ("STATEMENT", "print"): ("print", "EXPRESSION", ";", ("make", "print", 1)),
    ("STATEMENT", "if"): ("if", "EXPRESSION", "BLOCK", "OTHERWISE", ("make", "if", 3)),
    ("OTHERWISE", "else"): ("else", "BLOCK"),
    ("OTHERWISE", ""): (("new",),),
    ("STATEMENT", "while"): ("while", "EXPRESSION", "BLOCK", ("make", "while", 2)),
    ("STATEMENT", "try"): ("try", "BLOCK", "catch", "word", "BLOCK", ("make", "try", 3)),
    ("STATEMENT", "leave"): ("leave", ";", ("make", "leave", 0)),
    ("STATEMENT", "again"): ("again", ";", ("make", "again", 0)),
    ("STATEMENT", "return"): ("return", "EXPRESSION", ";", ("make", "return", 1)),
    ("STATEMENT", "raise"): ("raise", "EXPRESSION", ";", ("make", "raise", 1)),
    ("GIVEN", ")"): (),
    ("GIVEN", ""): ("EXPRESSION", ("put",), "FURTHER GIVEN"),
    ("FURTHER GIVEN", ","): (",", "EXPRESSION", ("put",), "FURTHER GIVEN"),
    ("FURTHER GIVEN", ""): (),
    ("EXPRESSION", ""): ("TOTAL", "COMPARED"),
    ("COMPARED", "<"): ("<", "TOTAL", ("make", "less", 2)),
    ("COMPARED", "=="): ("==", "TOTAL", ("make", "same", 2)),
    ("COMPARED", ""): (),
    ("TOTAL", ""): ("PRODUCT", "FURTHER PRODUCTS"),
    ("FURTHER PRODUCTS", "+"): ("+", "PRODUCT", ("make", "plus", 2), "FURTHER PRODUCTS"),
    ("FURTHER PRODUCTS", "-"): ("-", "PRODUCT", ("make", "minus", 2), "FURTHER PRODUCTS"),
    ("FURTHER PRODUCTS", ""): (),
    ("PRODUCT", ""): ("PART", "FURTHER PARTS"),
    ("FURTHER PARTS", "*"): ("*", "PART", ("make", "times", 2), "FURTHER PARTS"),
    ("FURTHER PARTS", "over"): ("over", "PART", ("make", "over", 2), "FURTHER PARTS"),
    ("FURTHER PARTS", "rest"): ("rest", "PART", ("make", "rest", 2), "FURTHER PARTS"),
    ("FURTHER PARTS", ""): (),
    ("PART", "word"): ("word", ("make", "name", 1)),
    ("PART", "number"): ("number", ("make", "number", 1)),
    ("PART", "("): ("(", "EXPRESSION", ")"),
}


class Reading:
    """What a text tells, the place of its first wrong token, and the lines of its statements."""

    def __init__(self, text):
        self.kept = []
        self.lines = []
        self.wrong = None
        waiting = ["SOURCE"]
        for token in tokens_of(text):
            if not self.takes(token, waiting):
                self.wrong = (token.line, token.column)
                break

    def takes(self, token, waiting):
        """Goes on with what waits, the next of it last, up to a token; whether the token may stand there."""
        while True:
            part = waiting.pop()
            if isinstance(part, tuple):
                self.do(part)
            elif part.isupper():
                rule = RULES.get((part, token.kind), RULES.get((part, "")))
                if rule is None:
                    return False
                if part == "STATEMENT":
                    self.lines.append(token.line)
                waiting.extend(rule[::-1])
            else:
                self.keep(token)
                return part == token.kind

    def keep(self, token):
        """Keeps the value of a token that has one."""
        if token.kind == "word":
            self.kept.append(token.text)
        elif token.kind == "number":
            self.kept.append(int(token.text))

    def do(self, deed):
        """Makes something of the values that were kept last."""
        word = deed[0]
        if word == "new":
            self.kept.append([])
        elif word == "put":
            value = self.kept.pop()
            self.kept[-1].append(value)
        else:
            begin = len(self.kept) - deed[2]
            made = tuple(self.kept[begin:])
            del self.kept[begin:]
            self.kept.append((deed[1], *made) if deed[1] else made)
