"""The log of a generation: records in pieces, one behind the other (points 250 to 252)."""

from sinktree.basics import are_printable
from sinktree.decimals import is_decimal
from sinktree.errors import DiskFull
from sinktree.pages import PIECE_SIZE, pieces_of


class Log:
    """The sectors of a disk from first on, so many as size says, for the records of one generation."""

    def __init__(self, disk, first, size, generation):
        self.disk = disk
        self.first = first
        self.most = size
        self.era = generation
        self.used = 0

    def append(self, text):
        """Write the pieces of a record behind those of earlier ones, or raise DiskFull."""
        pieces = pieces_of(text)
        if len(pieces) > self.room():
            raise DiskFull()
        for index, piece in enumerate(pieces):
            further = len(pieces) - 1 - index
            self.disk.write(self.first + self.used, f"{self.era} {self.used} {further} {piece}")
            self.used += 1

    def room(self):
        """Return the number of sectors that are left."""
        return self.most - self.used

    def needed(self, text):
        """Return the number of pieces of a text."""
        return len(pieces_of(text))


def read_log(disk, first, size, generation):
    """Return the list of the records of this generation that are on the disk."""
    records = []
    # The pieces of a record that is not finished, and how many further ones the next piece must announce.
    payloads = []
    expected = 0
    for place in range(size):
        piece = piece_from(disk.read(first + place))
        if piece is None or piece[:2] != (generation, place):
            break
        _, _, further, payload = piece
        if payloads and further != expected:
            break
        payloads.append(payload)
        expected = further - 1
        if further == 0:
            records.append("".join(payloads))
            payloads = []
    return records


def piece_from(text):
    """Return the generation, the place, the number of further pieces and the payload of a piece, or None."""
    parts = text.split(" ", 3)
    if len(parts) < 4 or not all([is_decimal(part) for part in parts[:3]]):
        return None
    payload = parts[3]
    if not 1 <= len(payload) <= PIECE_SIZE or not are_printable(payload):
        return None
    return (int(parts[0]), int(parts[1]), int(parts[2]), payload)
