"""Tests of what is left behind a crash of the disk: points 267 and 268, and point 2 about crashes."""

import random
import unittest

from sinktree.disk import Disk
from sinktree.errors import DiskCrashed, DiskFull
from sinktree.store import Store
from tests.disks import LESS, MORE, SMALL, TURN, Image, Watched, call, is_deed, rows_of, texts
from tests.rules import WORDS, check_rules

# Which pending writes survive: none, all, every second one, the other ones.
CHOICES = ([], [True] * 999, [True, False] * 500, [False, True] * 500)


def row_of_calls(seed, many, keys):
    """Return deeds with syncs and checkpoints between them."""
    maker = random.Random(seed)
    calls = []
    for _ in range(many):
        what = maker.random()
        key = maker.choice(keys)
        if what < 0.5:
            calls.append(("put", key, (maker.randint(0, 9), maker.random() < 0.5)))
        elif what < 0.65:
            calls.append(("drop", key))
        elif what < 0.8:
            calls.append(("run", key, maker.choice((MORE, LESS, TURN))))
        elif what < 0.95:
            calls.append(("sync",))
        else:
            calls.append(("checkpoint",))
    return calls


class Life:
    """A disk, and the calls that were made on the stores on it, through crashes and openings.

    The attribute deeds holds the deeds that the newest store may have performed, and safe is the number of those that
    it must have.
    """

    def __init__(self, test, disk):
        self.test = test
        self.disk = disk
        self.deeds = []
        self.safe = 0
        self.store = None

    def open(self):
        """Open a store, and make sure that it has performed a beginning of the deeds."""
        self.store = Store(self.disk, SMALL)
        performed = self.store.deeds()
        self.test.assertIn(performed, range(self.safe, len(self.deeds) + 1))
        self.deeds = self.deeds[:performed]
        self.safe = performed
        self.test.assertEqual(self.store.scan("", "~"), rows_of(SMALL, self.deeds))
        self.test.assertEqual(self.disk.pending(), 0)
        image = Image(self.disk.image())
        self.test.assertEqual((image.generation, image.log), (self.store.generation(), []))
        check_rules(image.root, image.nodes)

    def make(self, words):
        """Make a call; the deed of a call that crashes may have been performed."""
        generation = self.store.generation()
        before = len(self.deeds)
        if is_deed(words):
            self.deeds = self.deeds + [words]
        call(self.store, words)
        if words[0] in ("sync", "checkpoint"):
            self.safe = len(self.deeds)
        elif self.store.generation() > generation:
            self.safe = before
        self.test.assertEqual(self.store.deeds(), len(self.deeds))

    def live(self, calls):
        """Open a store and make the calls; return whether the disk crashed."""
        try:
            self.open()
            for words in calls:
                self.make(words)
        except DiskCrashed:
            return True
        return False


class Sync(unittest.TestCase):
    def test_sync(self):
        disk = Watched(60)
        store = Store(disk, SMALL)
        store.put("ann", (3, True))
        disk.operations.clear()
        self.assertEqual(disk.pending(), 1)
        store.sync()
        self.assertEqual((disk.operations, disk.pending()), ([None], 0))
        store.put("bob", (4, True))
        store.run("ann", MORE)
        disk.crash([])
        store = Store(disk, SMALL)
        self.assertEqual((store.deeds(), store.scan("", "~")), (1, [("ann", (3, True))]))

    def test_without_a_sync(self):
        for survivors, deeds in (([], 0), ([True], 1), ([False, True], 0), ([True, True], 2), ([True, False, True], 1)):
            disk = Disk(60)
            store = Store(disk, SMALL)
            for key in ("ann", "bob", "eve"):
                store.put(key, (3, True))
            self.assertEqual(disk.pending(), 3)
            disk.crash(survivors)
            store = Store(disk, SMALL)
            self.assertEqual((store.deeds(), [key for key, _ in store.scan("", "~")]), (deeds, ["ann", "bob", "eve"][:deeds]))

    def test_checkpoint(self):
        disk = Disk(60)
        store = Store(disk, SMALL)
        store.put("ann", (3, True))
        store.checkpoint()
        self.assertEqual((store.generation(), disk.pending()), (2, 0))
        disk.crash([])
        store = Store(disk, SMALL)
        self.assertEqual((store.deeds(), store.get("ann"), store.generation()), (1, (3, True), 3))

    def test_a_store_that_is_opened_keeps_its_deeds(self):
        # The opening itself makes the deeds durable that it has found.
        disk = Disk(60)
        store = Store(disk, SMALL)
        store.put("ann", (3, True))
        store = Store(disk, SMALL)
        disk.crash([])
        store = Store(disk, SMALL)
        self.assertEqual((store.deeds(), store.get("ann")), (1, (3, True)))

    def test_a_deed_in_several_pieces(self):
        program = "; ".join([TURN] * 9)
        for survivors, deeds in (([True] * 9, 1), ([True] * 2 + [False], 0), ([False] + [True] * 9, 0), ([True], 0), ([], 0)):
            disk = Disk(60)
            store = Store(disk, SMALL)
            store.put("ann", (3, True))
            store.sync()
            store.run("ann", program)
            self.assertGreater(disk.pending(), 2)
            disk.crash(survivors)
            store = Store(disk, SMALL)
            self.assertEqual((store.deeds(), store.get("ann")), (1 + deeds, (3, not deeds)))


class EachOperation(unittest.TestCase):
    def row(self, seed, many, keys, size):
        """Let the disk crash at each single operation of a row of calls, also those of the opening."""
        calls = row_of_calls(seed, many, keys) + [("sync",)]
        more = row_of_calls(seed + 1, 12, keys)
        for choice in CHOICES:
            number = 0
            crashed = True
            kept = set()
            while crashed:
                life = Life(self, Disk(size))
                life.disk.arm(number)
                crashed = life.live(calls)
                life.disk.crash(choice)
                life.open()
                kept.add(len(life.deeds))
                # It goes on, and so does the one behind it.
                self.assertFalse(life.live(more))
                number += 1
            self.assertGreater(number, many)
            self.assertGreater(len(kept), 5)
            self.assertIn(0, kept)
            self.assertIn(sum(is_deed(words) for words in calls), kept)

    def test_few_keys(self):
        self.row(1, 70, WORDS[:3], 60)

    def test_more_keys(self):
        self.row(3, 60, WORDS[:20], 101)

    def test_a_restored_tree(self):
        # A tree of two levels, with messages waiting in it, and then the row of calls with an opening in its midst.
        base = Disk(150)
        life = Life(self, base)
        life.live([("put", word, (3, True)) for word in WORDS[:40]] + [("run", word, MORE) for word in WORDS[:6]] + [("sync",)])
        calls = row_of_calls(5, 25, WORDS[:60:3])
        for choice in CHOICES[1:3]:
            number = 0
            crashed = True
            while crashed:
                again = Life(self, Disk(150))
                for index, text in enumerate(base.image()):
                    again.disk.write(index, text)
                again.disk.sync()
                again.deeds = list(life.deeds)
                again.safe = len(life.deeds)
                again.disk.arm(number)
                crashed = again.live(calls)
                again.disk.crash(choice)
                again.open()
                number += 1
            self.assertGreater(number, 30)


class SeveralCrashes(unittest.TestCase):
    def test_crashes_of_openings(self):
        # Each opening crashes at a later operation than the one before, until one does not.
        for choice in CHOICES:
            life = Life(self, Disk(80))
            for _ in range(6):
                # The disk is still armed from the last opening.
                life.disk.arm(10 ** 9)
                self.assertFalse(life.live(row_of_calls(len(life.deeds), 12, WORDS[:9])))
                number = 0
                while True:
                    life.disk.crash(choice)
                    life.disk.arm(number)
                    if not life.live([]):
                        break
                    number += 1
                self.assertGreater(number, 2)

    def test_one_crash_behind_the_other(self):
        for seed in range(150):
            maker = random.Random(seed)
            life = Life(self, Disk(maker.choice((60, 61, 90, 120))))
            for _ in range(12):
                life.disk.arm(maker.choice((0, 1, 2, 3, 4, 5, 8, 13, 20, 30, 50)))
                life.live(row_of_calls(maker.random(), 40, WORDS[:12]))
                life.disk.crash([maker.random() < 0.5 for _ in range(life.disk.pending())])
            life.open()
            self.assertEqual(life.disk.pending(), 0)

    def test_the_same_crash_again(self):
        # A crash in the midst of a checkpoint, then another one at the same place of the opening, which makes it again.
        for first in range(9):
            for second in range(9):
                life = Life(self, Disk(60))
                self.assertFalse(life.live(row_of_calls(7, 12, WORDS[:5])))
                life.disk.arm(first)
                try:
                    life.make(("checkpoint",))
                except DiskCrashed:
                    pass
                life.disk.crash([True, False] * 20)
                life.disk.arm(second)
                life.live([])
                life.disk.crash([False, True] * 20)
                life.open()

    def test_crashes_with_a_full_disk(self):
        # A disk so small that checkpoints fail in between; a failed attempt leaves nothing that counts.
        full = 0
        for seed in range(60):
            maker = random.Random(seed)
            life = Life(self, Disk(60))
            life.open()
            for number in range(60):
                key = WORDS[number]
                life.disk.arm(maker.randint(0, 60))
                try:
                    life.make(("put", key, (number % 10, True)))
                    if maker.random() < 0.3:
                        life.make(("sync",))
                except DiskFull:
                    full += 1
                    life.deeds = life.deeds[:life.store.deeds()]
                    break
                except DiskCrashed:
                    life.disk.crash([maker.random() < 0.5 for _ in range(99)])
                    try:
                        life.open()
                    except DiskFull:
                        full += 1
                        break
            life.disk.crash([maker.random() < 0.5 for _ in range(99)])
            image = Image(texts(life.disk))
            performed = image.deeds + len(image.log)
            self.assertIn(performed, range(life.safe, len(life.deeds) + 1))
        self.assertGreater(full, 20)


if __name__ == "__main__":
    unittest.main()
