"""The rules of point 222 for the tests, and trees at random that follow them."""

import random

from sinktree.nodes import apply_messages, child_index

WORDS = tuple(a + b + c for a in "abcdefghij" for b in "abcdefghij" for c in "abcdefghij")
MORE = ("run", (("load", 0), ("push", 1), ("add",), ("push", 9), ("min",), ("store", 0)))
TURN = ("run", (("load", 1), ("not",), ("store", 1)))
# With any further code that changes something, this is too long.
LONG = ("run", TURN[1] * 133)
DROP = ("drop",)


def put(number, flag=False):
    return ("put", (number, flag))


class Broken(AssertionError):
    """A rule of point 222 does not hold."""


def need(holds, *told):
    if not holds:
        raise Broken(told)


def ascending(words):
    return all(first < second for first, second in zip(words, words[1:]))


def check_rules(root, nodes):
    """Raise Broken if one of the six rules does not hold, or a node is not one of point 211; return the height."""
    found = {}
    depths = {}

    def responsible(words, low, high):
        need(ascending(words), "order", words)
        need(all(low <= word and (high is None or word < high) for word in words), "responsible", words, low, high)

    def visit(ident, low, high, depth):
        need(type(ident) is int and ident >= 0 and ident in nodes, "id", ident)
        need(ident not in found, "twice", ident)
        found[ident] = True
        node = nodes[ident]
        need(type(node) is tuple and node[0] in ("leaf", "branch"), "node", node)
        if node[0] == "leaf":
            need(len(node) == 2 and type(node[1]) is tuple, "leaf", node)
            depths[depth] = True
            need((2 if ident != root else 0) <= len(node[1]) <= 4, "leaf size", node)
            responsible([key for key, _ in node[1]], low, high)
            need(all(type(record) is tuple for _, record in node[1]), "record", node)
            return
        _, keys, children, buffer = node
        need(type(keys) is type(children) is type(buffer) is tuple, "branch", node)
        need(len(children) == len(keys) + 1 and 2 <= len(children) <= 4, "fan", node)
        responsible(keys, low, high)
        responsible([key for key, _ in buffer], low, high)
        need(all(type(messages) is tuple and messages for _, messages in buffer), "messages", node)
        need(sum(len(messages) for _, messages in buffer) <= 6, "buffer", node)
        ends = (low,) + keys + (high,)
        for index, child in enumerate(children):
            visit(child, ends[index], ends[index + 1], depth + 1)

    visit(root, "", None, 0)
    need(len(found) == len(nodes), "not reached", sorted(set(nodes) - set(found)))
    need(len(depths) == 1, "depths", depths)
    return list(depths)[0]


def result(root, nodes, key):
    """Return the record of a key as point 223 says, from the nodes alone."""
    waiting = []
    node = nodes[root]
    while node[0] == "branch":
        waiting.append(dict(node[3]).get(key, ()))
        node = nodes[node[2][child_index(node[1], key)]]
    record = dict(node[1]).get(key)
    for messages in reversed(waiting):
        record = apply_messages(messages, record)
    return record


class TreeMaker:
    """Makes roots and nodes that follow the rules at random, always the same ones for one seed."""

    def __init__(self, seed, height, drops):
        self.random = random.Random(seed)
        self.drops = drops
        self.nodes = {}
        self.idents = self.random.sample(range(10 ** 6), 1000) + [10 ** 20 - 1]
        self.keys = sorted(self.random.sample(WORDS, 5 * 4 ** height))
        self.root = self.make(self.keys, height)

    def message(self):
        if self.random.random() < self.drops:
            return DROP
        return self.random.choice((MORE, TURN, LONG, LONG, put(self.random.randint(0, 9))))

    def buffer(self, keys):
        pool = self.random.sample(keys, self.random.choice((1, 2, 5)))
        table = {}
        for _ in range(self.random.choice((0, 2, 6, 6, 6))):
            table.setdefault(self.random.choice(pool), []).append(self.message())
        return tuple((key, tuple(table[key])) for key in sorted(table))

    def make(self, keys, height):
        ident = self.idents.pop()
        if height == 0:
            chosen = sorted(self.random.sample(keys, self.random.choice((2, 2, 2, 3, 4))))
            self.nodes[ident] = ("leaf", tuple((key, (self.random.randint(0, 9), True)) for key in chosen))
            return ident
        many = self.random.choice((2, 2, 2, 3, 4))
        cuts = [len(keys) * index // many for index in range(many + 1)]
        children = tuple(self.make(keys[low:high], height - 1) for low, high in zip(cuts, cuts[1:]))
        between = tuple(keys[cut] for cut in cuts[1:-1])
        self.nodes[ident] = ("branch", between, children, self.buffer(keys))
        return ident
