"""Nodes of the tree made of other nodes: after messages, joined, and divided."""

from sinktree.nodes import BUFFER_MOST, FAN_MOST, LEAF_LEAST, LEAF_MOST, apply_messages, child_index, count_messages

CHILDREN_LEAST = 2


def is_thin(node):
    """Tell whether a node has too few entries or children for a node that is not the root."""
    if node[0] == "leaf":
        return len(node[1]) < LEAF_LEAST
    return len(node[2]) < CHILDREN_LEAST


def is_wide(node):
    """Tell whether a node has too many entries or children."""
    if node[0] == "leaf":
        return len(node[1]) > LEAF_MOST
    return len(node[2]) > FAN_MOST


def is_full(branch):
    """Tell whether a branch has too many messages."""
    return count_messages(branch[3]) > BUFFER_MOST


def leaf_after(leaf, buffer):
    """Return the leaf after all messages of a buffer."""
    records = dict(leaf[1])
    for key, messages in buffer:
        records[key] = apply_messages(messages, records.get(key))
    return ("leaf", tuple([(key, records[key]) for key in sorted(records) if records[key] is not None]))


def fullest_child(branch):
    """Return the index of the child for which most messages wait in the branch, the first of several."""
    _, keys, children, buffer = branch
    counts = [0] * len(children)
    for key, messages in buffer:
        counts[child_index(keys, key)] += len(messages)
    return counts.index(max(counts))


def parted_buffer(branch, index):
    """Return the part of a branch's buffer that waits for one of its children, and the rest."""
    _, keys, _, buffer = branch
    part = tuple([entry for entry in buffer if child_index(keys, entry[0]) == index])
    rest = tuple([entry for entry in buffer if child_index(keys, entry[0]) != index])
    return part, rest


def joined(first, key, second):
    """Return one node instead of two neighbours with this key between them."""
    if first[0] == "leaf":
        return ("leaf", first[1] + second[1])
    return ("branch", first[1] + (key,) + second[1], first[2] + second[2], first[3] + second[3])


def divided(node):
    """Return a list of the nodes that a wide node makes, and a tuple of the keys between them."""
    if node[0] == "leaf":
        entries = node[1]
        spans = even_spans(len(entries), LEAF_MOST)
        between = tuple([entries[start][0] for start, _ in spans[1:]])
        return [("leaf", entries[start:end]) for start, end in spans], between
    _, keys, children, buffer = node
    spans = even_spans(len(children), FAN_MOST)
    between = tuple([keys[start - 1] for start, _ in spans[1:]])
    pieces = []
    for index, (start, end) in enumerate(spans):
        part = tuple([entry for entry in buffer if child_index(between, entry[0]) == index])
        pieces.append(("branch", keys[start:end - 1], children[start:end], part))
    return pieces, between


def even_spans(many, most):
    """Return the (start, end) of as few equal parts of so many items as have at most so many items each."""
    parts = (many + most - 1) // most
    ends = [many * (index + 1) // parts for index in range(parts)]
    return list(zip([0] + ends[:-1], ends))
