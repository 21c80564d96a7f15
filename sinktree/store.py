"""The store: records on a disk that may crash (points 260 to 268)."""

from sinktree.compiler import compile_program
from sinktree.decimals import is_decimal
from sinktree.errors import BadKey, BadRecord, BadSchema, DiskError, DiskFull
from sinktree.judge import judge
from sinktree.log import Log, piece_from, read_log
from sinktree.nodes import is_key
from sinktree.pages import Pages
from sinktree.schemas import check_schema, is_record
from sinktree.syntax import parse_program
from sinktree.texts import decode, encode
from sinktree.tree import Tree

LEAST_SECTORS = 60
HEADS = 2


class Store:
    """Records of one schema under keys, kept on a disk.

    The attribute saved is a dict from the ids of the last checkpoint's nodes to their texts and the first slots of
    their pages, and summary is the first slot of the page that tells all about that checkpoint, or None. Each
    checkpoint begins another log.
    """

    def __init__(self, disk, schema):
        check_schema(schema)
        if disk.size() < LEAST_SECTORS:
            raise DiskError()
        self.disk = disk
        self.schema = schema
        self.span = (disk.size() - HEADS) // 4
        self.pages = Pages(disk, HEADS + 2 * self.span, disk.size())
        self.tree = Tree()
        self.performed = 0
        self.era = 0
        self.saved = {}
        self.summary = None
        head = newest_head(disk)
        if head is None:
            self.clear_logs()
        else:
            self.restore(head)
        self.checkpoint()

    def put(self, key, record):
        """Put a record under a key."""
        check_key(key)
        if not is_record(self.schema, record):
            raise BadRecord()
        self.perform(("put", key, record))

    def drop(self, key):
        """Drop the record of a key."""
        check_key(key)
        self.perform(("drop", key))

    def run(self, key, program):
        """Run a program, given as its text, on the record of a key."""
        check_key(key)
        code = compile_program(self.schema, parse_program(program))
        self.perform(("run", key, code))

    def run_code(self, key, code):
        """Run code on the record of a key."""
        check_key(key)
        judge(self.schema, code)
        self.perform(("run", key, code))

    def get(self, key):
        """Return the record of the key, or None if there is none."""
        return self.tree.get(key)

    def scan(self, low, high):
        """Return the list of (key, record) for the keys from low to less than high, in ascending order."""
        return self.tree.scan(low, high)

    def sync(self):
        """Make all deeds durable."""
        self.disk.sync()

    def deeds(self):
        """Return the number of deeds that have been performed."""
        return self.performed

    def generation(self):
        """Return the generation of the last checkpoint."""
        return self.era

    def checkpoint(self):
        """Make a checkpoint of the next generation, or raise DiskFull if there is no room."""
        saved, summary = self.store_pages()
        generation = self.era + 1
        self.disk.sync()
        self.disk.write(generation % 2, f"HEAD {generation} {summary}")
        self.disk.sync()
        self.release_unused(saved)
        self.era = generation
        self.saved = saved
        self.summary = summary
        self.log = Log(self.disk, self.log_start(generation), self.span, generation)

    def store_pages(self):
        """Store all pages that the next checkpoint needs; return what saved and summary become, or raise DiskFull."""
        nodes = self.tree.nodes()
        saved = {}
        fresh = []
        try:
            for ident in sorted(nodes):
                # The texts tell 1 and True apart, which Python takes for equal.
                text = encode(nodes[ident])
                page = self.saved.get(ident)
                if page is None or page[0] != text:
                    page = (text, self.pages.store(text))
                    fresh.append(page[1])
                saved[ident] = page
            table = tuple([(ident, saved[ident][1]) for ident in saved])
            summary = self.pages.store(encode((self.schema, self.performed, self.tree.root(), table)))
        except DiskFull:
            for slot in fresh:
                self.pages.release(slot)
            raise
        return saved, summary

    def release_unused(self, saved):
        """Release the pages of the last checkpoint that the next one does not use."""
        for ident, page in self.saved.items():
            if saved.get(ident) != page:
                self.pages.release(page[1])
        if self.summary is not None:
            self.pages.release(self.summary)

    def restore(self, head):
        """Take over the checkpoint that a head names, and perform the deeds of its log."""
        self.era, self.summary = head
        schema, self.performed, root, table = decode(self.pages.load(self.summary))
        if encode(schema) != encode(self.schema):
            raise BadSchema()
        self.pages.hold(self.summary)
        for ident, slot in table:
            self.saved[ident] = (self.pages.load(slot), slot)
            self.pages.hold(slot)
        self.tree = Tree.restored(root, {ident: decode(text) for ident, (text, _) in self.saved.items()})
        for text in read_log(self.disk, self.log_start(self.era), self.span, self.era):
            self.take_effect(decode(text))

    def clear_logs(self):
        """Empty all sectors of both logs that hold pieces; some later opening would take these for deeds."""
        for index in range(HEADS, HEADS + 2 * self.span):
            if piece_from(self.disk.read(index)) is not None:
                self.disk.write(index, "")

    def log_start(self, generation):
        """Return the index of the first sector of the log of a generation."""
        return HEADS + generation % 2 * self.span

    def perform(self, deed):
        """Write a deed to the log and let it take effect; raise DiskFull if there is no room for it."""
        text = encode(deed)
        if self.log.room() < self.log.needed(text):
            self.checkpoint()
        self.log.append(text)
        self.take_effect(deed)

    def take_effect(self, deed):
        """Add the message of a deed to the tree."""
        # A message is a deed without its key.
        self.tree.add(deed[1], deed[:1] + deed[2:])
        self.performed += 1


def check_key(key):
    """Raise BadKey if the value is not a key."""
    if not is_key(key):
        raise BadKey()


def newest_head(disk):
    """Return the generation and the slot of the head with the greater generation, or None if there is no head."""
    heads = [head_from(disk.read(index)) for index in range(HEADS)]
    return max([head for head in heads if head is not None], default=None)


def head_from(text):
    """Return the generation and the slot of a head, or None if the text is not a head."""
    parts = text.split(" ")
    if len(parts) != 3 or parts[0] != "HEAD" or not is_decimal(parts[1]) or not is_decimal(parts[2]):
        return None
    return (int(parts[1]), int(parts[2]))
