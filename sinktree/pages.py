"""Pages of any length, in chains of slots (points 240 and 241)."""

from sinktree.errors import DiskFull

PIECE_SIZE = 100
# What stands in the place of the index of the next slot in the last slot of a chain.
END = "-"


def pieces_of(text):
    """Return the list of the pieces of a text; only the last one may be shorter than the others."""
    return [text[start:start + PIECE_SIZE] for start in range(0, len(text), PIECE_SIZE)]


class Pages:
    """The sectors of a disk from first to last - 1, used as slots."""

    def __init__(self, disk, first, last):
        self.disk = disk
        # The free slots; the dict is a set that keeps an order.
        self.spare = {slot: True for slot in range(first, last)}

    def store(self, text):
        """Write a page to free slots and return its first slot, or raise DiskFull."""
        # A page has one slot at least, and so one piece, which may be empty.
        pieces = pieces_of(text) or [""]
        if len(pieces) > self.free():
            raise DiskFull()
        slots = list(self.spare)[:len(pieces)]
        followers = [str(slot) for slot in slots[1:]] + [END]
        for slot, follower, piece in zip(slots, followers, pieces):
            del self.spare[slot]
            self.disk.write(slot, f"{follower} {piece}")
        return slots[0]

    def load(self, slot):
        """Return the text of the page with this first slot."""
        return "".join([piece for _, piece in self.chain(slot)])

    def hold(self, slot):
        """Mark the slots of the page with this first slot as not free."""
        for place, _ in self.chain(slot):
            self.spare.pop(place, None)

    def release(self, slot):
        """Mark the slots of the page with this first slot as free."""
        for place, _ in self.chain(slot):
            self.spare[place] = True

    def free(self):
        """Return the number of free slots."""
        return len(self.spare)

    def chain(self, slot):
        """Return the list of (slot, piece) of the page with this first slot."""
        links = []
        follower = str(slot)
        while follower != END:
            place = int(follower)
            follower, _, piece = self.disk.read(place).partition(" ")
            links.append((place, piece))
        return links
