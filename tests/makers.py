"""Programs, records and code at random for the tests, always the same ones for one seed."""

import random

SCHEMA = (
    ("n", ("int", 0, 9)),
    ("m", ("int", -3, 5)),
    ("low", ("int", -9, -4)),
    ("on", ("flag",)),
    ("state", ("word", ("old", "new", "done"))),
    ("mood", ("word", ("sad", "new"))),
    ("note", ("text", 5)),
    ("long", ("text", 40)),
)
N = ("field", "n")
M = ("field", "m")
LOW = ("field", "low")
ON = ("field", "on")
STATE = ("field", "state")
MOOD = ("field", "mood")
NOTE = ("field", "note")
LONG = ("field", "long")
YES = ("flag", True)
NEW = ("word", "new")
EMPTY = ("text", "")


class ProgramMaker:
    """Makes programs and records at random, always the same ones for one seed."""

    def __init__(self, seed):
        self.random = random.Random(seed)

    def expression(self, kind, depth):
        pick = self.random.choice
        if depth == 0 or self.random.random() < 0.2:
            return pick(self.plain(kind))
        inner = self.expression
        if kind == "int":
            head = pick(("add", "sub", "mul", "min", "max", "div", "mod", "pick"))
            if head in ("div", "mod"):
                return (head, inner("int", depth - 1), self.random.randint(1, 12))
            if head != "pick":
                return (head, inner("int", depth - 1), inner("int", depth - 1))
        elif kind == "flag":
            head = pick(("less", "same", "not", "and", "or", "pick"))
            if head == "not":
                return ("not", inner("flag", depth - 1))
            if head != "pick":
                other = {"less": "int", "same": pick(("int", "flag", "word", "text"))}.get(head, "flag")
                return (head, inner(other, depth - 1), inner(other, depth - 1))
        elif kind == "text":
            head = pick(("cut", "join", "pick"))
            if head == "cut":
                return ("cut", inner("text", depth - 1), self.random.randint(0, 12))
            if head == "join":
                return ("join", inner("text", depth - 1), inner("text", depth - 1))
        return ("pick", inner("flag", depth - 1), inner(kind, depth - 1), inner(kind, depth - 1))

    def plain(self, kind):
        return {
            "int": (N, M, LOW, ("int", self.random.randint(-12, 12))),
            "flag": (ON, YES, ("flag", False)),
            "word": (STATE, MOOD, NEW, ("word", "sad")),
            "text": (NOTE, LONG, EMPTY, ("text", "xyz")),
        }[kind]

    def fitted(self, name, kind, expression):
        """Make an integer or a text fit its field."""
        if kind[0] == "int":
            return ("min", ("int", kind[2]), ("max", ("int", kind[1]), expression))
        if kind[0] == "text":
            return ("cut", expression, kind[1])
        return expression if kind[0] == "flag" else ("pick", self.expression("flag", 1), ("field", name), NEW)

    def program(self, depth):
        statements = []
        for _ in range(self.random.randint(1, 3)):
            if depth and self.random.random() < 0.4:
                condition = self.expression("flag", 2)
                statements.append(("if", condition, self.program(depth - 1), self.program(depth - 1)))
            else:
                name, kind = self.random.choice(SCHEMA)
                statements.append(("set", name, self.fitted(name, kind, self.expression(kind[0], 3))))
        return tuple(statements)

    def record(self):
        values = []
        for _, kind in SCHEMA:
            if kind[0] == "int":
                values.append(self.random.choice((kind[1], kind[2], self.random.randint(kind[1], kind[2]))))
            elif kind[0] == "flag":
                values.append(self.random.random() < 0.5)
            elif kind[0] == "word":
                values.append(self.random.choice(kind[1]))
            else:
                values.append("q" * self.random.choice((0, kind[1], self.random.randint(0, kind[1]))))
        return tuple(values)


class CodeMaker:
    """Makes code at random whose kinds are right, with skips that no compiler makes."""

    def __init__(self, seed):
        self.random = random.Random(seed)

    def code(self, size):
        """Return code of more or less this size; the judge may still refuse it as large."""
        self.out = []
        self.kinds = []
        # The skips whose numbers are not known yet: their index, and the kinds on the stack behind them.
        self.open = []
        while len(self.out) < size:
            self.step()
            self.close(0.2)
        while self.kinds:
            self.dispose()
            self.close(0.8)
        while self.open:
            for kind in self.open[-1][1]:
                self.push(kind)
            self.close(1)
            while self.kinds:
                self.dispose()
                self.close(0.8)
        return tuple(self.out)

    def emit(self, *instruction):
        self.out.append(instruction)

    def close(self, chance):
        """Let skips lead to this place, if the kinds are those behind the skip."""
        for skip in list(self.open):
            index, kinds = skip
            if kinds == self.kinds and self.random.random() < chance:
                self.out[index] = (self.out[index][0], len(self.out) - index - 1)
                self.open.remove(skip)

    def push(self, kind):
        pick = self.random.choice
        integer = self.random.randint(-12, 12)
        self.emit(*{
            "int": pick((("load", 0), ("load", 1), ("load", 2), ("push", integer), ("push", integer))),
            "flag": pick((("load", 3), ("push", True), ("push", False))),
            "word": pick((("load", 4), ("load", 5), ("word", "new"), ("word", "sad"))),
            "text": pick((("load", 6), ("load", 7), ("push", ""), ("push", "xy\""))),
        }[kind])
        self.kinds = self.kinds + [kind]

    def pop(self, many):
        self.kinds = self.kinds[:len(self.kinds) - many]

    def result(self, many, kind):
        self.pop(many)
        self.kinds = self.kinds + [kind]

    def dispose(self):
        """Store the last value where it fits."""
        kind = self.kinds[-1]
        if kind == "int":
            index = self.random.randrange(3)
            _, low, high = SCHEMA[index][1]
            self.push("int")
            self.out[-1] = ("push", low)
            self.emit("max")
            self.push("int")
            self.out[-1] = ("push", high)
            self.emit("min")
            self.pop(2)
            self.emit("store", index)
        elif kind == "flag":
            self.emit("store", 3)
        elif kind == "word":
            self.push("word")
            self.emit("same")
            self.pop(1)
            self.emit("store", 3)
        else:
            index = self.random.choice((6, 7))
            self.emit("cut", self.random.randint(0, SCHEMA[index][1][1]))
            self.emit("store", index)
        self.pop(1)

    def step(self):
        pick = self.random.choice
        last = self.kinds[-2:]
        what = self.random.random()
        if what < 0.3 and self.kinds and self.kinds[-1] == "flag":
            self.pop(1)
            self.open.append((len(self.out), self.kinds))
            self.emit("unless", 0)
        elif what < 0.4 and self.open:
            # Behind a jump, the code goes on where another skip leads.
            skip = pick(self.open)
            self.open.append((len(self.out), self.kinds))
            self.emit("jump", 0)
            for _ in range(self.random.randint(0, 2)):
                self.emit(*pick((("add",), ("store", 99), ("push", 1), ("jump", 0), ("unless", 0), ("pick",))))
            self.kinds = skip[1]
            self.out[skip[0]] = (self.out[skip[0]][0], len(self.out) - skip[0] - 1)
            self.open.remove(skip)
        elif what < 0.45 and self.kinds:
            self.dispose()
        elif what < 0.7 and last == ["int", "int"]:
            head = pick(("add", "sub", "mul", "min", "max", "less", "same"))
            self.emit(head)
            self.result(2, "flag" if head in ("less", "same") else "int")
        elif what < 0.7 and last == ["flag", "flag"]:
            self.emit(pick(("and", "or", "same")))
            self.result(2, "flag")
        elif what < 0.7 and last == ["text", "text"]:
            self.emit("join")
            self.result(2, "text")
        elif what < 0.75 and self.kinds[-3:-2] == ["flag"] and last[0] == last[1]:
            self.emit("pick")
            self.result(3, last[1])
        elif what < 0.8 and last[-1:] == ["int"]:
            self.emit(pick(("div", "mod")), self.random.randint(1, 9))
        elif what < 0.8 and last[-1:] == ["flag"]:
            self.emit("not")
        elif what < 0.8 and last[-1:] == ["text"]:
            self.emit("cut", self.random.randint(0, 20))
        else:
            self.push(pick(("int", "int", "flag", "word", "text")))
