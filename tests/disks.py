"""Disks for the tests of the store: watched, read and written by the test itself as points 240, 250 and 262 say."""

from sinktree.disk import Disk
from sinktree.meaning import evaluate
from sinktree.syntax import parse_program
from sinktree.texts import decode, encode

SMALL = (("n", ("int", 0, 9)), ("on", ("flag",)))
MORE = "n = min(9, (n + 1))"
LESS = "n = max(0, (n - 1))"
TURN = "on = (not on)"
# The text of its deed has more pieces than a log of 14 sectors.
LONG = "; ".join([TURN] * 60)
WIDE = tuple((name, ("text", 40)) for name in "abcdefgh")


def wide(letter):
    """Return a record whose text has several pieces."""
    return (letter * 40,) * 8


class Watched(Disk):
    """A disk that notes its operations: (index, text) for a write, None for a sync."""

    def __init__(self, size):
        Disk.__init__(self, size)
        self.operations = []

    def write(self, index, text):
        Disk.write(self, index, text)
        self.operations.append((index, text))

    def sync(self):
        Disk.sync(self)
        self.operations.append(None)


def texts(disk):
    return [disk.read(index) for index in range(disk.size())]


def areas(size):
    """Return the first sectors of the two logs, the size of a log, and the first slot."""
    span = (size - 2) // 4
    return 2, 2 + span, span, 2 + 2 * span


def page_of(sectors, slot):
    """Return the text of a page and the list of its slots."""
    text, slots = "", []
    while True:
        follower, piece = sectors[slot].split(" ", 1)
        text += piece
        slots.append(slot)
        if follower == "-":
            return text, slots
        slot = int(follower)


class Image:
    """What stands on a disk: the newest checkpoint and the deeds of its log."""

    def __init__(self, sectors):
        heads = []
        for index in (0, 1):
            parts = sectors[index].split(" ")
            if len(parts) == 3 and parts[0] == "HEAD":
                heads.append((int(parts[1]), int(parts[2]), index))
        self.generation, self.slot, self.sector = max(heads)
        text, self.slots = page_of(sectors, self.slot)
        self.slots = list(self.slots)
        self.schema, self.deeds, self.root, self.table = decode(text)
        self.nodes = {}
        self.places = {}
        for ident, slot in self.table:
            text, slots = page_of(sectors, slot)
            self.nodes[ident] = decode(text)
            self.places[ident] = slots
            self.slots += slots
        even, odd, span, _ = areas(len(sectors))
        first = odd if self.generation % 2 else even
        self.log = []
        begun = ""
        for place in range(span):
            parts = sectors[first + place].split(" ", 3)
            if parts[:2] != [str(self.generation), str(place)]:
                break
            begun += parts[3]
            if parts[2] == "0":
                self.log.append(decode(begun))
                begun = ""


class Writer:
    """Writes a disk by itself: slots from the end to the beginning, and the pieces of a page in a mixed order."""

    def __init__(self, size):
        self.disk = Disk(size)
        self.free = list(range(areas(size)[3], size))[::2] + list(range(areas(size)[3], size))[1::2]

    def page(self, text):
        pieces = [text[start:start + 100] for start in range(0, len(text), 100)] or [""]
        slots = [self.free.pop() for _ in pieces]
        for index, piece in enumerate(pieces):
            follower = str(slots[index + 1]) if index + 1 < len(slots) else "-"
            self.disk.write(slots[index], follower + " " + piece)
        return slots[0]

    def checkpoint(self, sector, generation, schema, deeds, root, nodes):
        table = tuple((ident, self.page(encode(nodes[ident]))) for ident in sorted(nodes))
        slot = self.page(encode((schema, deeds, root, table)))
        self.disk.write(sector, f"HEAD {generation} {slot}")

    def log(self, generation, deeds):
        place = areas(self.disk.size())[generation % 2]
        start = place
        for deed in deeds:
            text = encode(deed)
            pieces = [text[at:at + 100] for at in range(0, len(text), 100)]
            for index, piece in enumerate(pieces):
                self.disk.write(place, f"{generation} {place - start} {len(pieces) - 1 - index} {piece}")
                place += 1

    def done(self):
        self.disk.sync()
        return self.disk


def call(store, words):
    """Make a call of a store, given as its name and its arguments."""
    return getattr(store, words[0])(*words[1:])


def is_deed(words):
    return words[0] in ("put", "drop", "run")


def records_of(schema, calls):
    """Return the dict of records that results from calls; programs are evaluated plainly."""
    records = {}
    for words in calls:
        if words[0] == "put":
            records[words[1]] = words[2]
        elif words[0] == "drop":
            records.pop(words[1], None)
        elif words[0] == "run" and words[1] in records:
            records[words[1]] = evaluate(schema, parse_program(words[2]), records[words[1]])
    return records


def rows_of(schema, calls):
    """Return what scan returns for all keys behind these calls."""
    return sorted(records_of(schema, calls).items())
