"""The tree through which messages sink (points 211 and 220 to 224)."""

from sinktree.errors import BadKey
from sinktree.nodes import apply_messages, child_index, is_key, join_buffers, messages_for
from sinktree.shapes import divided, fullest_child, is_full, is_thin, is_wide, joined, leaf_after, parted_buffer


class Tree:
    """Records under keys, in leaves, and above them branches in which messages wait.

    A node is thin or wide if it has too few or too many entries or children, and full if it has too many messages.
    While messages sink, a node may be so for a moment; its parent mends that as soon as the node has got them.
    """

    def __init__(self):
        self.top = 0
        self.table = {0: ("leaf", ())}
        # All ids below this one are in use.
        self.lowest = 0

    @classmethod
    def restored(cls, root, nodes):
        """Return a tree with this root id and a copy of a dict from ids to nodes."""
        tree = cls()
        tree.top = root
        tree.table = dict(nodes)
        return tree

    def root(self):
        """Return the id of the root."""
        return self.top

    def nodes(self):
        """Return a new dict from the ids to the nodes."""
        return dict(self.table)

    def height(self):
        """Return the number of branches from the root to a leaf."""
        many = 0
        node = self.table[self.top]
        while node[0] == "branch":
            many += 1
            node = self.table[node[2][0]]
        return many

    def get(self, key):
        """Return the record of the key, or None if there is none."""
        if not is_key(key):
            return None
        waiting = []
        node = self.table[self.top]
        while node[0] == "branch":
            _, keys, children, buffer = node
            waiting.append(messages_for(buffer, key))
            node = self.table[children[child_index(keys, key)]]
        record = dict(node[1]).get(key)
        # What waits further down is older.
        for messages in reversed(waiting):
            record = apply_messages(messages, record)
        return record

    def scan(self, low, high):
        """Return the list of (key, record) for the keys from low to less than high, in ascending order."""
        records = self.results(self.top, low, high)
        return [(key, records[key]) for key in sorted(records) if records[key] is not None]

    def results(self, ident, low, high):
        """Return a dict from the keys from low to less than high at and below a node to what results for them."""
        node = self.table[ident]
        if node[0] == "leaf":
            return {key: record for key, record in node[1] if low <= key < high}
        _, keys, children, buffer = node
        records = {}
        for child in children[child_index(keys, low):child_index(keys, high) + 1]:
            records.update(self.results(child, low, high))
        for key, messages in buffer:
            if low <= key < high:
                records[key] = apply_messages(messages, records.get(key))
        return records

    def add(self, key, message):
        """Add a message for a key, or raise BadKey if it is not one."""
        if not is_key(key):
            raise BadKey()
        self.deliver(self.top, ((key, (message,)),))
        self.mend_root()

    def deliver(self, ident, messages):
        """Give a node a buffer of messages, which are newer than its own; then it may be thin or wide."""
        node = self.table[ident]
        if node[0] == "leaf":
            self.table[ident] = leaf_after(node, messages)
            return
        _, keys, children, buffer = node
        self.table[ident] = ("branch", keys, children, join_buffers(buffer, messages))
        self.drain(ident)

    def drain(self, ident):
        """Move messages of a branch to its children until it is not full, or thin."""
        while is_full(self.table[ident]) and not is_thin(self.table[ident]):
            branch = self.table[ident]
            index = fullest_child(branch)
            part, rest = parted_buffer(branch, index)
            _, keys, children, _ = branch
            self.table[ident] = ("branch", keys, children, rest)
            self.deliver(children[index], part)
            self.mend(ident, index)

    def mend(self, ident, index):
        """Make a child of a branch neither thin nor wide; the branch has another child, too."""
        if is_thin(self.table[self.child(ident, index)]):
            index = self.merge(ident, index)
        if is_wide(self.table[self.child(ident, index)]):
            self.divide(ident, index)

    def child(self, ident, index):
        """Return the id of a child of a branch."""
        return self.table[ident][2][index]

    def merge(self, ident, index):
        """Join a thin child of a branch with a neighbour; return the index of the node that they make."""
        _, keys, children, buffer = self.table[ident]
        left = max(index - 1, 0)
        first, second = children[left:left + 2]
        node = joined(self.table[first], keys[left], self.table[second])
        self.table[first] = node
        self.remove_node(second)
        self.table[ident] = ("branch", keys[:left] + keys[left + 1:], children[:left + 1] + children[left + 2:], buffer)
        if node[0] == "branch":
            # A thin branch has one child, and all of its messages wait for it; the neighbour is not full. So messages
            # are moved to one child at most, two of three children are left, and the node does not become thin again.
            self.drain(first)
        return left

    def divide(self, ident, index):
        """Put several nodes in the place of a wide child of a branch."""
        _, keys, children, buffer = self.table[ident]
        wide = children[index]
        pieces, between = divided(self.table[wide])
        self.table[wide] = pieces[0]
        idents = [wide] + [self.new_node(piece) for piece in pieces[1:]]
        children = children[:index] + tuple(idents) + children[index + 1:]
        self.table[ident] = ("branch", keys[:index] + between + keys[index:], children, buffer)

    def mend_root(self):
        """Make the root neither wide nor a thin branch."""
        node = self.table[self.top]
        while is_wide(node) or (node[0] == "branch" and is_thin(node)):
            if is_wide(node):
                self.top = self.new_node(("branch", (), (self.top,), ()))
                self.divide(self.top, 0)
            else:
                self.remove_node(self.top)
                self.top = node[2][0]
                self.deliver(self.top, node[3])
            node = self.table[self.top]

    def new_node(self, node):
        """Put a node into the tree under the least id that is free, and return this id."""
        while self.lowest in self.table:
            self.lowest += 1
        self.table[self.lowest] = node
        return self.lowest

    def remove_node(self, ident):
        """Remove a node."""
        del self.table[ident]
        self.lowest = min(self.lowest, ident)
