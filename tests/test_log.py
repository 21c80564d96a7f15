"""Tests of the log: points 250, 251 and 252."""

import random
import unittest

from sinktree.disk import Disk
from sinktree.errors import DiskFull
from sinktree.log import Log, read_log

LETTERS = "".join(chr(code) for code in range(32, 127) if code != 37)


def record(length):
    return (LETTERS * (length // len(LETTERS) + 1))[:length]


def texts(disk):
    return [disk.read(index) for index in range(disk.size())]


def written(*sectors, first=3, size=20):
    """Return a disk with these texts from the sector first on."""
    disk = Disk(size)
    for index, text in enumerate(sectors):
        disk.write(first + index, text)
    return disk


class Append(unittest.TestCase):
    def test_the_texts_of_the_sectors(self):
        for length, sizes in (
            (1, [1]), (2, [2]), (99, [99]), (100, [100]), (101, [100, 1]), (200, [100, 100]), (201, [100, 100, 1]),
            (250, [100, 100, 50]),
        ):
            with self.subTest(length=length):
                disk = Disk(20)
                log = Log(disk, 3, 10, 7)
                text = record(length)
                self.assertEqual(log.needed(text), len(sizes))
                self.assertIsNone(log.append(text))
                expected, start = [], 0
                for place, size in enumerate(sizes):
                    expected.append(f"7 {place} {len(sizes) - 1 - place} {text[start:start + size]}")
                    start += size
                self.assertEqual(texts(disk), [""] * 3 + expected + [""] * (17 - len(sizes)))
                self.assertEqual(log.room(), 10 - len(sizes))
                self.assertEqual(disk.pending(), len(sizes))
                self.assertEqual(disk.image(), [""] * 20)
                self.assertEqual(read_log(disk, 3, 10, 7), [text])

    def test_records_behind_each_other(self):
        disk = Disk(20)
        log = Log(disk, 2, 12, 30)
        rows = ["a", "x" * 100, "y" * 101, "b", "z" * 250, " "]
        left = 12
        for number, text in enumerate(rows):
            self.assertEqual(log.room(), left)
            log.append(text)
            left -= log.needed(text)
            self.assertEqual(read_log(disk, 2, 12, 30), rows[:number + 1])
        self.assertEqual(log.room(), 3)
        self.assertEqual(texts(disk), [
            "", "", "30 0 0 a", "30 1 0 " + "x" * 100, "30 2 1 " + "y" * 100, "30 3 0 y", "30 4 0 b", "30 5 2 " + "z" * 100,
            "30 6 1 " + "z" * 100, "30 7 0 " + "z" * 50, "30 8 0  ", "", "", "", "", "", "", "", "", "",
        ])

    def test_places_of_two_digits(self):
        disk = Disk(40)
        log = Log(disk, 1, 15, 123)
        for number in range(15):
            log.append(str(number))
        self.assertEqual(texts(disk)[1:17], [f"123 {number} 0 {number}" for number in range(15)] + [""])

    def test_needed(self):
        log = Log(Disk(20), 3, 2, 0)
        for length, many in ((1, 1), (100, 1), (101, 2), (200, 2), (201, 3), (250, 3), (1000, 10), (1001, 11)):
            self.assertEqual(log.needed(record(length)), many)
        self.assertEqual(log.room(), 2)

    def test_full(self):
        for lengths in ((500,), (100, 400), (1, 1, 1, 1, 1), (250, 200), (150, 150, 7)):
            with self.subTest(lengths=lengths):
                disk = Disk(10)
                log = Log(disk, 3, 5, 1)
                for length in lengths:
                    log.append(record(length))
                self.assertEqual(log.room(), 0)
                self.assertEqual(read_log(disk, 3, 5, 1), [record(length) for length in lengths])
                before = texts(disk)
                for length in (1, 100, 250):
                    with self.assertRaises(DiskFull):
                        log.append(record(length))
                self.assertEqual((texts(disk), log.room()), (before, 0))
                self.assertEqual((before[:3], before[8:]), ([""] * 3, [""] * 2))

    def test_one_piece_beyond(self):
        disk = Disk(10)
        log = Log(disk, 3, 5, 1)
        log.append("a")
        log.append("b")
        before = (texts(disk), disk.pending())
        for length in (301, 400, 1000):
            with self.assertRaises(DiskFull):
                log.append(record(length))
            self.assertEqual(((texts(disk), disk.pending()), log.room()), (before, 3))
        log.append(record(300))
        self.assertEqual(log.room(), 0)
        self.assertEqual(read_log(disk, 3, 5, 1), ["a", "b", record(300)])
        with self.assertRaises(DiskFull):
            Log(disk, 3, 5, 2).append(record(501))
        self.assertEqual(read_log(disk, 3, 5, 1), ["a", "b", record(300)])

    def test_a_new_object_is_empty(self):
        disk = Disk(10)
        Log(disk, 3, 5, 1).append(record(300))
        log = Log(disk, 3, 5, 2)
        self.assertEqual(log.room(), 5)
        self.assertEqual(disk.pending(), 3)
        log.append("b")
        self.assertEqual(disk.read(3), "2 0 0 b")
        self.assertEqual(read_log(disk, 3, 5, 2), ["b"])
        self.assertEqual(read_log(disk, 3, 5, 1), [])

    def test_nothing_is_read_or_synced(self):
        disk = Disk(10)
        log = Log(disk, 3, 5, 0)
        log.append("a")
        self.assertEqual((disk.pending(), disk.read(3)), (1, "0 0 0 a"))


class ReadLog(unittest.TestCase):
    def expect(self, sectors, records, generation=5, size=10):
        with self.subTest(sectors=sectors):
            disk = written(*sectors)
            before = texts(disk)
            self.assertEqual(read_log(disk, 3, size, generation), records)
            self.assertEqual(texts(disk), before)

    def test_an_empty_log(self):
        self.expect([], [])
        self.assertEqual(read_log(Disk(20), 3, 10, 0), [])
        self.assertEqual(read_log(Disk(20), 3, 0, 0), [])

    def test_records(self):
        self.expect(["5 0 0 a"], ["a"])
        self.expect(["5 0 0 a", "5 1 0 b", "5 2 0 c"], ["a", "b", "c"])
        self.expect(["5 0 1 " + "x" * 100, "5 1 0 y", "5 2 0 b"], ["x" * 100 + "y", "b"])
        self.expect(["5 0 2 " + "x" * 100, "5 1 1 " + "y" * 100, "5 2 0 z"], ["x" * 100 + "y" * 100 + "z"])

    def test_what_stands_behind(self):
        for text in ("", "x", "4 1 0 b", "5 0 0 b", "5 2 0 b", "HEAD 5 1", "- b"):
            self.expect(["5 0 0 a", text, "5 2 0 c"], ["a"])
        self.expect(["", "5 1 0 b"], [])
        self.expect(["x", "5 1 0 b"], [])

    def test_another_generation(self):
        for generation in (0, 4, 6, 50, 55, 15):
            self.expect([f"{generation} 0 0 a", f"{generation} 1 0 b"], [])
            self.expect(["5 0 0 a", f"{generation} 1 0 b", "5 2 0 c"], ["a"])
            self.expect([f"{generation} 0 0 a", f"{generation} 1 0 b"], ["a", "b"], generation)

    def test_the_end_of_the_log(self):
        sectors = ["5 0 0 a", "5 1 0 b", "5 2 0 c", "5 3 0 d"]
        for size in range(5):
            self.expect(sectors, ["a", "b", "c", "d"][:size], 5, size)
        self.expect(["5 0 0 a", "5 1 1 " + "x" * 100, "5 2 0 y"], ["a"], 5, 2)

    def test_a_missing_last_piece(self):
        long = "x" * 100
        self.expect(["5 0 1 " + long], [])
        self.expect(["5 0 2 " + long, "5 1 1 " + long], [])
        self.expect(["5 0 0 a", "5 1 2 " + long, "5 2 1 " + long], ["a"])
        self.expect(["5 0 0 a", "5 1 2 " + long, "5 2 1 " + long, "4 3 0 y"], ["a"])
        self.expect(["5 0 1000 " + long], [])

    def test_a_record_within_an_unfinished_one(self):
        long = "x" * 100
        for further in (0, 2, 3, 4):
            sectors = ["5 0 0 a", "5 1 2 " + long, f"5 2 {further} " + long, "5 3 1 " + long, "5 4 0 y"]
            self.expect(sectors, ["a"])
        self.expect(["5 0 2 " + long, "5 1 0 b", "5 2 0 c"], [])
        self.expect(["5 0 1 " + long, "5 1 1 " + long, "5 2 0 c"], [])
        self.expect(["5 0 2 " + long, "5 1 1 " + long, "5 2 1 " + long, "5 3 0 c"], [])

    def test_numbers(self):
        for text in (
            "05 1 0 b", "5 01 0 b", "5 1 00 b", "5 1 01 b", "+5 1 0 b", "5 +1 0 b", "5 1 +0 b", "-5 1 0 b", "5 -1 0 b",
            "5 1 -0 b", "5 1 -1 b", "5.0 1 0 b", "5 1_0 0 b", "5 1 0x0 b", "5  1 0 b", "5 1  0 b", " 5 1 0 b", "5 1 a b",
            "a 1 0 b", "5 a 0 b", "5 1 \u0660 b", "\u0665 1 0 b", "5 \u0661 0 b", "5 1 \u00b2 b", "5\n1 0 b", "5 1 0\tb",
            "- 1 0 b", "5 - 0 b", "5 1 - b",
        ):
            self.expect(["5 0 0 a", text, "5 2 0 c"], ["a"])

    def test_places(self):
        for place in (0, 2, 3, 10, 11):
            self.expect(["5 0 0 a", f"5 {place} 0 b", "5 2 0 c"], ["a"])
        # The place is counted from the beginning of the log, not of the disk.
        self.expect(["5 3 0 a", "5 4 0 b"], [])

    def test_parts(self):
        for text in ("5 1 0", "5 1", "5", "", " ", "  ", "   ", "5 1 0b", "510 b"):
            self.expect(["5 0 0 a", text, "5 2 0 c"], ["a"])
            self.expect([text, "5 1 0 b"], [])

    def test_payloads(self):
        self.expect(["5 0 0 a", "5 1 0 ", "5 2 0 c"], ["a"])
        self.expect(["5 0 0 "], [])
        self.expect(["5 0 0 a", "5 1 0 " + "x" * 101, "5 2 0 c"], ["a"])
        self.expect(["5 0 0 " + "x" * 101], [])
        self.expect(["5 0 0 " + "x" * 100, "5 1 0 b"], ["x" * 100, "b"])
        self.expect(["5 0 1 " + "x" * 101, "5 1 0 b"], [])
        self.expect(["5 0 1 " + "x" * 100, "5 1 0 "], [])

    def test_short_pieces(self):
        self.expect(["5 0 1 ab", "5 1 0 c"], ["abc"])
        self.expect(["5 0 2 a", "5 1 1 " + "x" * 99, "5 2 0 " + "y" * 100, "5 3 0 d"], ["a" + "x" * 99 + "y" * 100, "d"])

    def test_spaces(self):
        for payload in (" ", "  ", " a", "a ", " a  b ", "5 1 0 b", " " * 100, "0 0 0 0"):
            self.expect(["5 0 0 " + payload, "5 1 0 b"], [payload, "b"])
            self.expect(["5 0 1 " + payload, "5 1 0 " + payload], [payload + payload])

    def test_characters_that_are_not_printable(self):
        for letter in ("\n", "\t", chr(0), chr(37), chr(127), "\u00e9"):
            self.expect(["5 0 0 a", f"5 1 0 b{letter}c", "5 2 0 d"], ["a"])

    def test_great_numbers(self):
        great = 10 ** 14
        self.expect([f"{great} 0 0 a", f"{great} 1 0 b"], ["a", "b"], great)
        self.expect(["5 0 0 a", "5 1 " + "9" * 100 + " b", "5 2 " + "9" * 99 + "8 c"], ["a"])
        self.expect(["9" * 110 + " 0 0 a"], [])

    def test_any_texts(self):
        maker = random.Random(252)
        for _ in range(3000):
            sectors = []
            for place in range(4):
                parts = [maker.choice(("5", "5", "5", "4", "05", "")), maker.choice((str(place), str(place), "0", "1", "-")),
                         maker.choice(("0", "0", "1", "2", "00")), maker.choice(("a", "b c", "", " ", "x" * 100, "x" * 101))]
                sectors.append(" ".join(parts[:maker.choice((4, 4, 4, 4, 3, 2))]))
            self.expect(sectors, expected(sectors), 5, 4)


def expected(sectors):
    """Return the records of generation 5 as point 252 says, looking for the first sector that does not fit."""
    pieces = []
    for place, text in enumerate(sectors):
        head = f"5 {place} "
        rest = text[len(head):].split(" ", 1)
        if not text.startswith(head) or len(rest) < 2 or rest[0] not in ("0", "1", "2") or not 1 <= len(rest[1]) <= 100:
            break
        if pieces and pieces[-1][0] > 0 and int(rest[0]) != pieces[-1][0] - 1:
            break
        pieces.append((int(rest[0]), rest[1]))
    records, begun = [], ""
    for further, payload in pieces:
        begun += payload
        if further == 0:
            records.append(begun)
            begun = ""
    return records


class Promise(unittest.TestCase):
    def test_logs_at_random(self):
        maker = random.Random(250)
        for _ in range(200):
            first, size, generation = maker.randint(0, 9), maker.randint(1, 20), maker.choice((0, 1, 9, 10, 12345))
            disk = written(*[f"{maker.choice((generation, 3))} {place} 0 old" for place in range(30)], first=0, size=40)
            for index in range(first, first + size):
                disk.write(index, "")
            log = Log(disk, first, size, generation)
            rows = []
            used = 0
            while used < size:
                text = record(maker.choice((1, 50, 100, 101, 250, 400)))
                many = -(-len(text) // 100)
                if many > size - used:
                    self.assertRaises(DiskFull, log.append, text)
                    break
                log.append(text)
                rows.append(text)
                used += many
                self.assertEqual(log.room(), size - used)
            self.assertEqual(read_log(disk, first, size, generation), rows)


if __name__ == "__main__":
    unittest.main()
