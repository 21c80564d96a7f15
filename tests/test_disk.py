"""Tests of the disk: points 230 to 233."""

import copy
import itertools
import random
import unittest

from sinktree.disk import SECTOR_SIZE, Disk
from sinktree.errors import DiskCrashed, DiskError


def written(*writes):
    """Return a disk of four sectors with the durable texts a, b, c, d and these pending writes."""
    disk = Disk(4)
    for index, text in enumerate("abcd"):
        disk.write(index, text)
    disk.sync()
    for index, text in writes:
        disk.write(index, text)
    return disk


def texts(disk):
    return [disk.read(index) for index in range(disk.size())]


class Sectors(unittest.TestCase):
    def test_the_size(self):
        self.assertEqual(SECTOR_SIZE, 120)
        for size in (1, 2, 60, 1000):
            disk = Disk(size)
            self.assertEqual(disk.size(), size)
            self.assertEqual(texts(disk), [""] * size)
            self.assertEqual(disk.image(), [""] * size)
            self.assertEqual(disk.pending(), 0)

    def test_sizes_that_are_none(self):
        for size in (0, -1, -60):
            with self.assertRaises(DiskError):
                Disk(size)

    def test_indexes(self):
        for size in (1, 3):
            disk = Disk(size)
            for index in (-1, -size, -size - 1, size, size + 1, 10 ** 9):
                with self.subTest(size=size, index=index):
                    with self.assertRaises(DiskError):
                        disk.read(index)
                    with self.assertRaises(DiskError):
                        disk.write(index, "x")
                    self.assertEqual((disk.pending(), texts(disk)), (0, [""] * size))
            for index in (0, size - 1):
                disk.write(index, "x")
                self.assertEqual(disk.read(index), "x")

    def test_lengths(self):
        disk = Disk(2)
        for length in (0, 1, 119, 120):
            disk.write(1, "x" * length)
            self.assertEqual(disk.read(1), "x" * length)
        for length in (121, 122, 1000):
            with self.assertRaises(DiskError):
                disk.write(1, "x" * length)
            with self.assertRaises(DiskError):
                disk.write(0, "x" * length)
        self.assertEqual((disk.read(0), disk.read(1), disk.pending()), ("", "x" * 120, 4))

    def test_any_characters(self):
        disk = Disk(1)
        for text in (" ", "\n", "  a ", chr(37), chr(233), "i0;"):
            disk.write(0, text)
            self.assertEqual(disk.read(0), text)
            disk.sync()
            self.assertEqual(disk.read(0), text)


class Writes(unittest.TestCase):
    def test_what_is_read(self):
        disk = written((1, "x"), (2, "y"), (1, "z"))
        self.assertEqual(texts(disk), ["a", "z", "y", "d"])
        self.assertEqual(disk.image(), ["a", "b", "c", "d"])
        self.assertEqual(disk.pending(), 3)
        disk.sync()
        self.assertEqual(texts(disk), ["a", "z", "y", "d"])
        self.assertEqual(disk.image(), ["a", "z", "y", "d"])
        self.assertEqual(disk.pending(), 0)

    def test_pending(self):
        disk = Disk(4)
        for many in range(1, 6):
            disk.write(many % 2, "x")
            self.assertEqual(disk.pending(), many)
        disk.read(0)
        self.assertEqual(disk.pending(), 5)
        disk.sync()
        self.assertEqual(disk.pending(), 0)
        disk.sync()
        self.assertEqual(disk.pending(), 0)
        disk.write(3, "")
        self.assertEqual(disk.pending(), 1)
        disk.crash([True])
        self.assertEqual(disk.pending(), 0)

    def test_image_is_a_new_list(self):
        disk = written((0, "x"))
        first = disk.image()
        first[1] = "spoilt"
        first.append("more")
        self.assertEqual(disk.image(), ["a", "b", "c", "d"])
        self.assertEqual(texts(disk), ["x", "b", "c", "d"])
        kept = disk.image()
        disk.sync()
        disk.write(2, "y")
        disk.crash([1])
        self.assertEqual(kept, ["a", "b", "c", "d"])
        self.assertEqual(disk.image(), ["x", "b", "y", "d"])

    def test_sync_makes_earlier_writes_durable(self):
        disk = written((0, "x"))
        disk.sync()
        disk.write(0, "y")
        disk.crash([])
        self.assertEqual(texts(disk), ["x", "b", "c", "d"])


class Crash(unittest.TestCase):
    def expect(self, writes, survivors, result):
        with self.subTest(writes=writes, survivors=survivors):
            disk = written(*writes)
            kept = copy.deepcopy(survivors)
            disk.crash(survivors)
            self.assertEqual(survivors, kept)
            self.assertEqual(texts(disk), result)
            self.assertEqual(disk.image(), result)
            self.assertEqual(disk.pending(), 0)
            disk.crash([True] * 9)
            self.assertEqual(texts(disk), result)

    def test_no_write_is_pending(self):
        for survivors in ([], [True], [False, True]):
            self.expect((), survivors, ["a", "b", "c", "d"])

    def test_survivors(self):
        writes = ((0, "w"), (1, "x"), (3, "z"))
        for flags in itertools.product((False, True), repeat=3):
            self.expect(writes, list(flags), [
                "w" if flags[0] else "a", "x" if flags[1] else "b", "c", "z" if flags[2] else "d",
            ])

    def test_fewer_and_more_survivors_than_writes(self):
        writes = ((0, "w"), (1, "x"), (3, "z"))
        self.expect(writes, [], ["a", "b", "c", "d"])
        self.expect(writes, [True], ["w", "b", "c", "d"])
        self.expect(writes, [False, True], ["a", "x", "c", "d"])
        self.expect(writes, [True, False, True, True, True], ["w", "b", "c", "z"])
        self.expect(writes, [False, False, False, True], ["a", "b", "c", "d"])

    def test_items_that_are_true(self):
        writes = ((0, "w"), (1, "x"), (3, "z"))
        self.expect(writes, [1, 0, 7], ["w", "b", "c", "z"])
        self.expect(writes, [None, "x", ""], ["a", "x", "c", "d"])

    def test_two_writes_to_one_sector(self):
        writes = ((2, "first"), (2, "second"))
        self.expect(writes, [True, True], ["a", "b", "second", "d"])
        self.expect(writes, [False, True], ["a", "b", "second", "d"])
        self.expect(writes, [True, False], ["a", "b", "first", "d"])
        self.expect(writes, [False, False], ["a", "b", "c", "d"])
        writes = ((2, "first"), (0, "x"), (2, "second"), (2, "third"))
        self.expect(writes, [True, False, True, False], ["a", "b", "second", "d"])
        self.expect(writes, [True, True, False, False], ["x", "b", "first", "d"])
        self.expect(writes, [True, True, True, True], ["x", "b", "third", "d"])

    def test_what_survives_is_durable(self):
        disk = written((0, "w"), (1, "x"))
        disk.crash([True, False])
        disk.write(0, "again")
        disk.crash([])
        self.assertEqual(texts(disk), ["w", "b", "c", "d"])

    def test_the_disk_works_again(self):
        disk = written((0, "w"))
        disk.arm(0)
        with self.assertRaises(DiskCrashed):
            disk.sync()
        disk.crash([False])
        for _ in range(3):
            disk.write(1, "x")
            disk.sync()
        self.assertEqual(texts(disk), ["a", "x", "c", "d"])
        self.assertEqual(disk.image(), ["a", "x", "c", "d"])

    def test_not_armed_behind_a_crash(self):
        for count in (0, 1, 2, 5):
            # Without a crash before, and armed again while the disk is down.
            for down in (False, True):
                disk = written((0, "w"))
                if down:
                    disk.arm(0)
                    with self.assertRaises(DiskCrashed):
                        disk.write(1, "x")
                disk.arm(count)
                disk.crash([])
                for _ in range(9):
                    disk.write(2, "y")
                    disk.sync()
                self.assertEqual(texts(disk), ["a", "b", "y", "d"])


class Arm(unittest.TestCase):
    def crashes(self, function, *arguments):
        with self.assertRaises(DiskCrashed):
            function(*arguments)

    def test_at_once(self):
        disk = written((0, "w"))
        disk.arm(0)
        self.crashes(disk.write, 1, "x")
        self.assertEqual(disk.pending(), 1)
        self.assertEqual(disk.image(), ["a", "b", "c", "d"])
        disk.crash([True, True, True])
        self.assertEqual(texts(disk), ["w", "b", "c", "d"])

    def test_at_a_sync(self):
        disk = written((0, "w"), (1, "x"))
        disk.arm(0)
        self.crashes(disk.sync)
        self.assertEqual(disk.pending(), 2)
        self.assertEqual(disk.image(), ["a", "b", "c", "d"])
        disk.crash([False, True])
        self.assertEqual(texts(disk), ["a", "x", "c", "d"])

    def test_counts(self):
        for count in range(8):
            disk = written()
            disk.arm(count)
            for number in range(count):
                if number % 3 == 2:
                    disk.sync()
                else:
                    disk.write(number % 4, str(number))
            before = (disk.pending(), disk.image())
            if count % 3 == 2:
                self.crashes(disk.sync)
            else:
                self.crashes(disk.write, 3, "last")
            self.assertEqual((disk.pending(), disk.image()), before)
            disk.crash([True] * 9)
            self.assertNotIn("last", texts(disk))

    def test_reads_do_not_count(self):
        disk = written()
        disk.arm(1)
        for index in (0, 1, 2, 3, 0):
            self.assertEqual(disk.read(index), "abcd"[index])
        disk.write(0, "x")
        self.assertEqual(disk.read(0), "x")
        self.crashes(disk.sync)

    def test_what_raises_a_disk_error_does_not_count(self):
        disk = written()
        disk.arm(1)
        for index, text in ((-1, "x"), (4, "x"), (0, "x" * 121)):
            for _ in range(2):
                with self.assertRaises(DiskError):
                    disk.write(index, text)
        with self.assertRaises(DiskError):
            disk.read(4)
        disk.write(0, "x")
        # The next operation is the one that crashes, but these are none.
        for index, text in ((-1, "x"), (4, "x"), (0, "x" * 121)):
            with self.assertRaises(DiskError):
                disk.write(index, text)
        self.assertEqual(disk.read(0), "x")
        self.crashes(disk.write, 0, "y")

    def test_a_later_arm_replaces_an_earlier_one(self):
        disk = written()
        disk.arm(0)
        disk.arm(2)
        disk.write(0, "x")
        disk.write(0, "y")
        self.crashes(disk.write, 0, "z")
        disk = written()
        disk.arm(5)
        disk.write(0, "x")
        disk.arm(1)
        disk.sync()
        self.crashes(disk.sync)
        disk = written()
        disk.arm(3)
        disk.arm(0)
        self.crashes(disk.sync)

    def test_down_until_crash(self):
        disk = written((0, "w"))
        disk.arm(0)
        self.crashes(disk.write, 1, "x")
        for again in range(3):
            self.crashes(disk.read, 0)
            self.crashes(disk.write, 0, "x")
            self.crashes(disk.sync)
            # These would be errors of a disk that works.
            for index in (-1, 4):
                self.crashes(disk.read, index)
                self.crashes(disk.write, index, "x")
            self.crashes(disk.write, 0, "x" * 121)
            disk.arm(5 * again)
        self.assertEqual(disk.size(), 4)
        self.assertEqual(disk.pending(), 1)
        self.assertEqual(disk.image(), ["a", "b", "c", "d"])
        disk.crash([True])
        self.assertEqual(texts(disk), ["w", "b", "c", "d"])

    def test_a_disk_that_is_not_armed(self):
        disk = Disk(1)
        for number in range(500):
            disk.write(0, str(number))
            disk.sync()
        self.assertEqual(texts(disk), ["499"])


class Model:
    """A disk as the points say, by nothing but a list of durable texts and a list of writes."""

    def __init__(self, size):
        self.durable = [""] * size
        self.writes = []

    def read(self, index):
        return ([text for place, text in self.writes if place == index] or [self.durable[index]])[-1]

    def keep(self, survivors):
        for number, (index, text) in enumerate(self.writes):
            if survivors[number:number + 1] and survivors[number]:
                self.durable[index] = text
        self.writes = []


class AtRandom(unittest.TestCase):
    def test_against_a_model(self):
        maker = random.Random(230)
        for _ in range(200):
            disk, model = Disk(5), Model(5)
            left = None
            for step in range(60):
                what = maker.random()
                index = maker.randrange(5)
                if what < 0.1:
                    left = maker.randint(0, 6)
                    disk.arm(left)
                elif what < 0.2:
                    survivors = [maker.random() < 0.5 for _ in range(maker.randint(0, 12))]
                    disk.crash(survivors)
                    model.keep(survivors)
                    left = None
                elif left == 0:
                    self.assertRaises(DiskCrashed, disk.write, index, "lost")
                    self.assertRaises(DiskCrashed, disk.read, index)
                    survivors = [maker.random() < 0.5 for _ in range(maker.randint(0, 12))]
                    disk.crash(survivors)
                    model.keep(survivors)
                    left = None
                elif what < 0.3:
                    disk.sync()
                    model.keep([True] * len(model.writes))
                    left = None if left is None else left - 1
                else:
                    disk.write(index, str(step))
                    model.writes.append((index, str(step)))
                    left = None if left is None else left - 1
                self.assertEqual(texts(disk), [model.read(place) for place in range(5)])
                self.assertEqual((disk.image(), disk.pending()), (model.durable, len(model.writes)))


if __name__ == "__main__":
    unittest.main()
