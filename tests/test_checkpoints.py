"""Tests of heads and checkpoints: points 261, 262 and 263."""

import random
import unittest

from sinktree.compiler import compile_program
from sinktree.disk import Disk
from sinktree.errors import DiskCrashed, DiskFull
from sinktree.store import Store
from sinktree.syntax import parse_program
from sinktree.texts import encode
from tests.disks import MORE, SMALL, TURN, WIDE, Image, Watched, areas, call, rows_of, texts, wide
from tests.rules import WORDS, check_rules


def grown(disk, many, schema=SMALL):
    """Return a store with this many records, and the calls that made them."""
    store = Store(disk, schema)
    calls = [("put", word, (index % 10, True)) for index, word in enumerate(WORDS[:many])]
    for words in calls:
        call(store, words)
    return store, calls


def copied(disk):
    """Return another disk on which the same is read."""
    other = Disk(disk.size())
    for index, text in enumerate(texts(disk)):
        other.write(index, text)
    other.sync()
    return other


class Numbers(unittest.TestCase):
    def test_deeds_and_generations(self):
        disk = Watched(100)
        store = Store(disk, SMALL)
        deeds, generation, used = 0, 1, 0
        maker = random.Random(261)
        for number in range(300):
            what = maker.random()
            if what < 0.8:
                words = maker.choice((("put", WORDS[number % 7], (3, True)), ("drop", WORDS[number % 5]), ("run", "ann", MORE)))
                code = compile_program(SMALL, parse_program(MORE))
                pieces = -(-len(encode(("run", "ann", code))) // 100) if words[0] == "run" else 1
                if used + pieces > 24:
                    generation, used = generation + 1, 0
                used += pieces
                call(store, words)
                deeds += 1
            elif what < 0.9:
                store.sync()
            elif what < 0.96:
                store.checkpoint()
                generation, used = generation + 1, 0
            else:
                store = Store(disk, SMALL)
                generation, used = generation + 1, 0
            store.get("ann")
            store.scan("", "~")
            self.assertEqual((store.deeds(), store.generation()), (deeds, generation))
            self.assertEqual(Image(texts(disk)).generation, generation)
            self.assertEqual(Image(texts(disk)).deeds + len(Image(texts(disk)).log), deeds)
        self.assertGreater(generation, 20)


class Steps(unittest.TestCase):
    """The operations of a checkpoint, in their order."""

    def expect(self, disk, store, operations):
        """Make sure that these are the operations of one checkpoint, the last that was made."""
        generation = store.generation()
        _, _, _, slots = areas(disk.size())
        self.assertIsNone(operations[-1])
        index, text = operations[-2]
        image = Image(disk.image())
        self.assertEqual((index, text), (generation % 2, f"HEAD {generation} {image.slot}"))
        self.assertIsNone(operations[-3])
        pages = operations[:-3]
        self.assertNotIn(None, pages)
        self.assertTrue(all(slots <= index < disk.size() for index, _ in pages))
        self.assertEqual(image.generation, generation)
        return image, [index for index, _ in pages]

    def test_a_new_store(self):
        disk = Watched(60)
        store = Store(disk, SMALL)
        image, written = self.expect(disk, store, disk.operations)
        self.assertEqual(sorted(written), sorted(image.slots))

    def test_the_page_of_the_checkpoint_is_stored_last(self):
        disk = Watched(200)
        store, _ = grown(disk, 40)
        for _ in range(3):
            disk.operations.clear()
            store.put("ann", (3, True))
            disk.operations.clear()
            store.checkpoint()
            image, written = self.expect(disk, store, disk.operations)
            text = encode((SMALL, store.deeds(), image.root, image.table))
            slots = image.slots[:-(-len(text) // 100)]
            self.assertEqual(set(written[-len(slots):]), set(slots))
            self.assertFalse(set(written[:-len(slots)]) & set(slots))

    def test_the_texts(self):
        disk = Watched(300)
        store, calls = grown(disk, 60)
        for number in range(12):
            store.checkpoint()
            image = Image(disk.image())
            self.assertEqual((image.schema, image.deeds), (SMALL, store.deeds()))
            self.assertEqual((image.generation, image.sector), (store.generation(), store.generation() % 2))
            self.assertEqual(image.log, [])
            self.assertEqual([ident for ident, _ in image.table], sorted(image.nodes))
            self.assertEqual(len(set(image.slots)), len(image.slots))
            check_rules(image.root, image.nodes)
            for words in (("put", WORDS[number * 3], (5, False)), ("drop", WORDS[number * 7]), ("run", WORDS[number * 2], MORE)):
                call(store, words)
                calls.append(words)
            self.assertEqual([deed[0] for deed in Image(texts(disk)).log], ["put", "drop", "run"])
            self.assertEqual(Image(disk.image()).log, [])
            self.assertEqual(store.scan("", "~"), rows_of(SMALL, calls))

    def test_each_generation(self):
        disk = Watched(60)
        store = Store(disk, SMALL)
        for generation in range(2, 14):
            older = texts(disk)[(generation + 1) % 2]
            disk.operations.clear()
            store.checkpoint()
            self.assertEqual(store.generation(), generation)
            self.expect(disk, store, disk.operations)
            # The head of the generation before stays.
            self.assertEqual(texts(disk)[(generation + 1) % 2], older)
            self.assertEqual(older[:len(f"HEAD {generation - 1} ")], f"HEAD {generation - 1} ")

    def test_unchanged_nodes_are_not_stored_again(self):
        disk = Watched(300)
        store, _ = grown(disk, 60)
        store.checkpoint()
        for number in range(30):
            before = Image(disk.image())
            if number % 3:
                store.put(WORDS[(number * 17) % 80], (number % 10, False))
            if number % 10 == 9:
                # The checkpoint of an opening does not store them again either.
                disk.operations.clear()
                store = Store(disk, SMALL)
            else:
                disk.operations.clear()
                store.checkpoint()
            image, written = self.expect(disk, store, disk.operations)
            fresh = list(image.slots)
            for ident, slots in image.places.items():
                if ident in before.nodes and before.nodes[ident] == image.nodes[ident]:
                    self.assertEqual(slots, before.places[ident])
                    fresh = [slot for slot in fresh if slot not in slots]
                else:
                    self.assertFalse(set(slots) & set(before.slots))
            self.assertEqual(sorted(written), sorted(fresh))
            # No page of the checkpoint before has been written over.
            self.assertFalse(set(written) & set(before.slots))

    def test_slots_are_released(self):
        # Many more pages are stored than there are slots.
        disk = Watched(60)
        store = Store(disk, SMALL)
        calls = []
        for number in range(200):
            calls.append(("put", WORDS[number % 9], (number % 10, True)))
            call(store, calls[-1])
            store.checkpoint()
            if number % 20 == 19:
                store = Store(disk, SMALL)
        self.assertEqual(store.scan("", "~"), rows_of(SMALL, calls))
        self.assertEqual(store.generation(), 211)
        written = sum(operation is not None and operation[0] >= 30 for operation in disk.operations)
        self.assertGreater(written, 500)

    def test_a_node_that_goes(self):
        disk = Watched(300)
        store, calls = grown(disk, 60)
        store.checkpoint()
        many = len(Image(disk.image()).nodes)
        for word in WORDS[:60] * 2:
            calls.append(("drop", word))
            call(store, calls[-1])
        store.checkpoint()
        self.assertEqual(store.scan("", "~"), [])
        self.assertLess(len(Image(disk.image()).nodes), many)
        store = Store(disk, SMALL)
        self.assertEqual((store.scan("", "~"), store.deeds()), ([], 180))


class NoRoom(unittest.TestCase):
    def filled(self):
        """Return a disk and a store on which a checkpoint finds no room, and its calls."""
        disk = Watched(60)
        store = Store(disk, WIDE)
        calls = []
        for word in WORDS:
            words = ("put", word, wide("x"))
            try:
                call(store, words)
            except DiskFull:
                return disk, store, calls
            calls.append(words)
            try:
                copy = copied(disk)
                Store(copy, WIDE)
            except DiskFull:
                return disk, store, calls
        self.fail("there is always room")

    def test_nothing_changes(self):
        disk, store, calls = self.filled()
        before = (store.scan("", "~"), store.deeds(), store.generation())
        heads = disk.image()
        pages = Image(texts(disk))
        start = texts(disk)[:30]
        used = set(pages.slots)
        for _ in range(5):
            disk.operations.clear()
            with self.assertRaises(DiskFull):
                store.checkpoint()
            self.assertEqual((store.scan("", "~"), store.deeds(), store.generation()), before)
            self.assertEqual(disk.image(), heads)
            self.assertNotIn(None, disk.operations)
            # What was stored stands in free slots, and the same slots are free again for each attempt.
            written = [index for index, _ in disk.operations]
            self.assertFalse(set(written) & used)
            self.assertTrue(all(30 <= index < 60 for index in written))
            self.assertEqual(texts(disk)[:30], start)
            self.assertEqual(Image(texts(disk)).nodes, pages.nodes)
        self.assertEqual(store.scan("", "~"), rows_of(WIDE, calls))

    def test_the_store_goes_on(self):
        disk, store, calls = self.filled()
        generation = store.generation()
        for _ in range(3):
            self.assertRaises(DiskFull, store.checkpoint)
        log = Image(texts(disk)).log
        performed = 0
        for words in [("drop", words[1]) for words in calls] * 2:
            try:
                call(store, words)
            except DiskFull:
                break
            calls.append(words)
            performed += 1
            self.assertEqual(store.scan("", "~"), rows_of(WIDE, calls))
        self.assertGreater(performed, 0)
        if store.generation() == generation:
            self.assertEqual(Image(texts(disk)).log[:len(log)], log)
        store.sync()
        disk.crash([])
        self.assertEqual(Image(disk.image()).generation, store.generation())
        self.assertEqual(Image(disk.image()).deeds + len(Image(disk.image()).log), len(calls))

    def nearly_filled(self):
        """Return a disk and a store whose leaf of four wide records has room for its page, but not for the next one."""
        disk = Watched(60)
        store = Store(disk, WIDE)
        for word in WORDS[:3]:
            store.put(word, wide("x"))
        store.checkpoint()
        store.put(WORDS[3], wide("x"))
        image = Image(disk.image())
        leaf = tuple((word, wide("x")) for word in WORDS[:4])
        needed = -(-len(encode(("leaf", leaf))) // 100)
        self.assertTrue(needed <= 30 - len(image.slots) < needed + 3)
        return disk, store, needed

    def test_each_attempt_finds_the_same_slots_free(self):
        disk, store, needed = self.nearly_filled()
        for _ in range(10):
            disk.operations.clear()
            with self.assertRaises(DiskFull):
                store.checkpoint()
            self.assertEqual(len({index for index, _ in disk.operations}), needed)

    def test_room_again(self):
        for attempts in (0, 1, 10):
            disk, store, _ = self.nearly_filled()
            for _ in range(attempts):
                self.assertRaises(DiskFull, store.checkpoint)
            store.drop(WORDS[0])
            self.assertEqual((store.generation(), store.deeds()), (2, 5))
            store.checkpoint()
            self.assertEqual((store.generation(), store.deeds()), (3, 5))
            rows = [(word, wide("x")) for word in WORDS[1:4]]
            self.assertEqual(store.scan("", "~"), rows)
            disk.crash([])
            store = Store(disk, WIDE)
            self.assertEqual((store.generation(), store.deeds(), store.scan("", "~")), (4, 5, rows))

    def test_no_room_for_an_opening(self):
        disk, store, _ = self.nearly_filled()
        store.sync()
        for _ in range(4):
            with self.assertRaises(DiskFull):
                Store(disk, WIDE)
        # The store that was open all the time goes on, as no opening has changed anything.
        store.drop(WORDS[0])
        store.sync()
        disk.crash([True] * 9)
        self.assertEqual(Store(disk, WIDE).scan("", "~"), [(word, wide("x")) for word in WORDS[1:4]])


class Crashes(unittest.TestCase):
    def test_at_each_operation(self):
        disk = Disk(200)
        store, calls = grown(disk, 50)
        store.checkpoint()
        for words in (("put", "ann", (3, True)), ("drop", WORDS[3]), ("run", WORDS[4], TURN), ("put", WORDS[5], (9, False))):
            call(store, words)
            calls.append(words)
        number = 0
        crashed = True
        while crashed:
            older = 0
            for choice in range(5):
                armed = copied(disk)
                store = Store(armed, SMALL)
                generation = store.generation()
                more = [("put", WORDS[index], (number % 10, False)) for index in range(0, 50, 6)]
                for words in more:
                    call(store, words)
                store.sync()
                armed.arm(number)
                crashed = False
                try:
                    store.checkpoint()
                except DiskCrashed:
                    crashed = True
                many = armed.pending()
                armed.crash(([], [True] * many, [True, False] * many, [False, True] * many, [False] * (many - 1) + [True])[choice])
                image = Image(armed.image())
                self.assertIn(image.generation, (generation, generation + 1) if crashed else (generation + 1,))
                older += image.generation == generation
                self.assertEqual(image.deeds + len(image.log), len(calls + more))
                check_rules(image.root, image.nodes)
                store = Store(armed, SMALL)
                self.assertEqual((store.generation(), store.deeds()), (image.generation + 1, len(calls + more)))
                self.assertEqual(store.scan("", "~"), rows_of(SMALL, calls + more))
            # The head counts where it survives the crash at the very last sync.
            self.assertIn(older, (0, 2, 5))
            number += 1
        self.assertGreater(number, 8)


if __name__ == "__main__":
    unittest.main()
