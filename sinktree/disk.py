"""A disk of sectors that can lose its pending writes (points 230 to 233)."""

from sinktree.errors import DiskCrashed, DiskError

SECTOR_SIZE = 120


class Disk:
    """Sectors that hold texts; what is written is pending until the next sync."""

    def __init__(self, size):
        if size < 1:
            raise DiskError()
        self.durable = [""] * size
        self.current = [""] * size
        # The pending writes in their order, each an (index, text).
        self.unsynced = []
        # How many operations go well before the disk crashes, or None if it is not armed.
        self.left = None
        self.down = False

    def size(self):
        """Return the number of sectors."""
        return len(self.durable)

    def read(self, index):
        """Return what was last written to a sector."""
        self.check_sector(index)
        return self.current[index]

    def write(self, index, text):
        """Write a text to a sector; the write is pending."""
        self.check_sector(index)
        if len(text) > SECTOR_SIZE:
            raise DiskError()
        self.begin_operation()
        self.current[index] = text
        self.unsynced.append((index, text))

    def sync(self):
        """Make all pending writes durable."""
        self.check_up()
        self.begin_operation()
        self.keep_writes(self.unsynced)

    def arm(self, count):
        """Let the disk crash at the operation after so many further ones."""
        self.left = count

    def crash(self, survivors):
        """Lose the pending writes but those whose item of the list is true; then the disk works again."""
        self.keep_writes([write for write, survives in zip(self.unsynced, survivors) if survives])
        self.current = list(self.durable)
        self.left = None
        self.down = False

    def pending(self):
        """Return the number of pending writes."""
        return len(self.unsynced)

    def image(self):
        """Return a new list of the texts that the sectors hold if all pending writes are lost."""
        return list(self.durable)

    def check_up(self):
        """Raise DiskCrashed if the disk has crashed."""
        if self.down:
            raise DiskCrashed()

    def check_sector(self, index):
        """Raise DiskCrashed if the disk has crashed, and DiskError if there is no such sector."""
        self.check_up()
        if not 0 <= index < len(self.durable):
            raise DiskError()

    def begin_operation(self):
        """Count an operation of an armed disk, or crash at it."""
        if self.left == 0:
            self.down = True
            raise DiskCrashed()
        if self.left is not None:
            self.left -= 1

    def keep_writes(self, writes):
        """Make these writes durable; no write is pending any more."""
        for index, text in writes:
            self.durable[index] = text
        self.unsynced = []
