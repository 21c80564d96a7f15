"""Tests of slots and pages: points 240 and 241."""

import random
import unittest

from sinktree.disk import Disk
from sinktree.errors import DiskFull
from sinktree.pages import PIECE_SIZE, Pages

LETTERS = "".join(chr(code) for code in range(32, 127) if code != 37)


class Watched(Disk):
    """A disk that notes which sectors are written."""

    def __init__(self, size):
        Disk.__init__(self, size)
        self.written = []
        self.syncs = 0

    def write(self, index, text):
        self.written.append(index)
        Disk.write(self, index, text)

    def sync(self):
        self.syncs += 1
        Disk.sync(self)


def page(length):
    return (LETTERS * (length // len(LETTERS) + 1))[:length]


def slots_of(disk, slot):
    """Return the slots and the pieces of a page as point 240 says."""
    slots, pieces = [], []
    while True:
        follower, piece = disk.read(slot).split(" ", 1)
        slots.append(slot)
        pieces.append(piece)
        if follower == "-":
            return slots, pieces
        slot = int(follower)
        assert follower == str(slot)


class Texts(unittest.TestCase):
    def test_the_size_of_a_piece(self):
        self.assertEqual(PIECE_SIZE, 100)

    def test_the_texts_of_the_slots(self):
        for length, sizes in (
            (0, [0]), (1, [1]), (2, [2]), (99, [99]), (100, [100]), (101, [100, 1]), (199, [100, 99]), (200, [100, 100]),
            (201, [100, 100, 1]), (999, [100] * 9 + [99]), (1000, [100] * 10),
        ):
            with self.subTest(length=length):
                disk = Watched(20)
                pages = Pages(disk, 3, 18)
                text = page(length)
                first = pages.store(text)
                slots, pieces = slots_of(disk, first)
                self.assertEqual([len(piece) for piece in pieces], sizes)
                self.assertEqual("".join(pieces), text)
                self.assertEqual(sorted(set(slots)), sorted(slots))
                self.assertEqual(sorted(disk.written), sorted(slots))
                self.assertEqual(pages.free(), 15 - len(slots))
                self.assertEqual(pages.load(first), text)
                self.assertTrue(all(3 <= slot < 18 for slot in slots))
                for index in range(20):
                    if index not in slots:
                        self.assertEqual(disk.read(index), "")

    def test_exact_texts(self):
        disk = Disk(7)
        pages = Pages(disk, 6, 7)
        self.assertEqual(pages.store(""), 6)
        self.assertEqual(disk.read(6), "- ")
        pages.release(6)
        self.assertEqual(pages.store("a b"), 6)
        self.assertEqual(disk.read(6), "- a b")
        disk = Disk(7)
        pages = Pages(disk, 5, 7)
        first = pages.store("x" * 100 + "y")
        self.assertEqual(disk.read(first), f"{11 - first} " + "x" * 100)
        self.assertEqual(disk.read(11 - first), "- y")

    def test_indexes_of_several_digits(self):
        disk = Disk(12000)
        pages = Pages(disk, 11990, 12000)
        text = page(950)
        first = pages.store(text)
        slots, _ = slots_of(disk, first)
        self.assertEqual(sorted(slots), list(range(11990, 12000)))
        self.assertEqual(pages.load(first), text)

    def test_spaces_at_the_ends_of_a_piece(self):
        for text in (
            " ", "  ", " a", "a ", " " * 100, " " * 101, " " * 250, "x" * 99 + " " + " " + "y" * 99 + " ", "x" * 99 + "  y",
            " " * 99 + "x" + " " * 100 + "y", "- 5 " * 60, "7 " * 120,
        ):
            with self.subTest(text=text):
                disk = Disk(10)
                pages = Pages(disk, 2, 10)
                first = pages.store(text)
                self.assertEqual("".join(slots_of(disk, first)[1]), text)
                self.assertEqual(pages.load(first), text)

    def test_a_page_written_by_the_test(self):
        disk = Disk(20)
        disk.write(17, "4 " + "a" * 99 + " ")
        disk.write(4, "11 " + " " + "b" * 99)
        disk.write(11, "- c ")
        disk.write(5, "- ")
        pages = Pages(disk, 4, 18)
        self.assertEqual(pages.load(17), "a" * 99 + "  " + "b" * 99 + "c ")
        self.assertEqual(pages.load(5), "")
        self.assertEqual(pages.free(), 14)
        pages.hold(17)
        self.assertEqual(pages.free(), 11)
        pages.hold(5)
        self.assertEqual(pages.free(), 10)
        taken = [pages.store("") for _ in range(10)]
        self.assertEqual(sorted(taken + [17, 4, 11, 5]), list(range(4, 18)))
        self.assertEqual(pages.load(17), "a" * 99 + "  " + "b" * 99 + "c ")


class Room(unittest.TestCase):
    def full(self, pages, disk, text):
        before = (pages.free(), disk.pending(), [disk.read(index) for index in range(disk.size())])
        with self.assertRaises(DiskFull):
            pages.store(text)
        self.assertEqual((pages.free(), disk.pending(), [disk.read(index) for index in range(disk.size())]), before)

    def test_just_enough(self):
        for length, many in ((0, 1), (1, 1), (100, 1), (101, 2), (200, 2), (201, 3), (1000, 10)):
            with self.subTest(length=length):
                disk = Disk(30)
                pages = Pages(disk, 5, 5 + many)
                first = pages.store(page(length))
                self.assertEqual(pages.free(), 0)
                self.assertEqual(pages.load(first), page(length))
                self.full(pages, disk, "")
                self.full(pages, disk, "x")
                disk = Disk(30)
                pages = Pages(disk, 5, 5 + many - 1)
                self.full(pages, disk, page(length))
                self.full(pages, disk, page(length + 100))

    def test_no_slots(self):
        disk = Disk(5)
        for first in (0, 2, 5):
            pages = Pages(disk, first, first)
            self.assertEqual(pages.free(), 0)
            self.full(pages, disk, "")

    def test_the_whole_disk(self):
        disk = Disk(3)
        pages = Pages(disk, 0, 3)
        first = pages.store(page(300))
        self.assertEqual(pages.load(first), page(300))
        self.assertEqual(pages.free(), 0)

    def test_one_too_few_behind_others(self):
        disk = Disk(20)
        pages = Pages(disk, 10, 16)
        first = pages.store(page(250))
        self.full(pages, disk, page(301))
        self.full(pages, disk, page(1000))
        second = pages.store(page(300))
        self.assertEqual(pages.free(), 0)
        self.assertEqual((pages.load(first), pages.load(second)), (page(250), page(300)))
        pages.release(first)
        self.assertEqual(pages.free(), 3)
        self.full(pages, disk, page(301))
        third = pages.store(page(299))
        self.assertEqual((pages.load(second), pages.load(third)), (page(300), page(299)))


class Marks(unittest.TestCase):
    def test_what_is_free_at_first(self):
        disk = Disk(9)
        Pages(disk, 2, 9).store(page(350))
        pages = Pages(disk, 2, 9)
        self.assertEqual(pages.free(), 7)
        self.assertEqual(disk.pending(), 4)

    def test_hold(self):
        disk = Watched(12)
        older = Pages(disk, 2, 12)
        first, second, third = older.store(page(350)), older.store(""), older.store(page(150))
        held = slots_of(disk, first)[0] + slots_of(disk, third)[0]
        disk.written.clear()
        pages = Pages(disk, 2, 12)
        pages.hold(first)
        self.assertEqual(pages.free(), 6)
        pages.hold(third)
        self.assertEqual(pages.free(), 4)
        self.assertEqual(disk.written, [])
        # A page that is held already stays so.
        pages.hold(first)
        self.assertEqual(pages.free(), 4)
        for _ in range(4):
            pages.store("x")
        self.assertEqual(sorted(disk.written + held), list(range(2, 12)))
        self.assertIn(second, disk.written)
        with self.assertRaises(DiskFull):
            pages.store("x")
        self.assertEqual((pages.load(first), pages.load(third)), (page(350), page(150)))

    def test_release(self):
        disk = Watched(12)
        pages = Pages(disk, 2, 12)
        first, second = pages.store(page(450)), pages.store(page(420))
        slots = slots_of(disk, first)[0]
        before = [disk.read(index) for index in range(12)]
        disk.written.clear()
        pages.release(first)
        self.assertEqual(pages.free(), 5)
        self.assertEqual((disk.written, disk.syncs), ([], 0))
        self.assertEqual([disk.read(index) for index in range(12)], before)
        third = pages.store(page(500))
        self.assertEqual(sorted(slots_of(disk, third)[0]), sorted(slots))
        self.assertEqual(pages.load(second), page(420))
        self.assertEqual(pages.free(), 0)

    def test_hold_and_release(self):
        disk = Disk(12)
        first = Pages(disk, 2, 12).store(page(350))
        pages = Pages(disk, 2, 12)
        pages.hold(first)
        self.assertEqual(pages.free(), 6)
        pages.release(first)
        self.assertEqual(pages.free(), 10)
        second = pages.store(page(1000))
        self.assertEqual(pages.load(second), page(1000))

    def test_nothing_syncs(self):
        disk = Watched(12)
        pages = Pages(disk, 2, 12)
        first = pages.store(page(350))
        pages.load(first)
        pages.hold(first)
        pages.release(first)
        pages.free()
        self.assertEqual((disk.syncs, len(disk.written)), (0, 4))

    def test_at_random(self):
        maker = random.Random(240)
        for _ in range(40):
            disk = Watched(60)
            pages = Pages(disk, 7, 53)
            held = {}
            for _ in range(80):
                taken = [slot for first in held for slot in slots_of(disk, first)[0]]
                self.assertEqual(pages.free(), 46 - len(taken))
                self.assertEqual(len(set(taken)), len(taken))
                disk.written.clear()
                if held and maker.random() < 0.4:
                    first = maker.choice(list(held))
                    pages.release(first)
                    del held[first]
                elif maker.random() < 0.1:
                    pages = Pages(disk, 7, 53)
                    for first in held:
                        pages.hold(first)
                else:
                    text = page(maker.choice((0, 5, 100, 101, 350, 1000, 2000)))
                    try:
                        first = pages.store(text)
                    except DiskFull:
                        self.assertGreater(max(1, -(-len(text) // 100)), 46 - len(taken))
                        self.assertEqual(disk.written, [])
                    else:
                        held[first] = text
                for slot in disk.written:
                    self.assertNotIn(slot, taken)
                    self.assertIn(slot, range(7, 53))
                for first, text in held.items():
                    self.assertEqual(pages.load(first), text)


if __name__ == "__main__":
    unittest.main()
