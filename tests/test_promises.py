"""Tests of what the store as a whole promises: points 1 and 2."""

import random
import unittest

from sinktree.disk import Disk
from sinktree.errors import BadCode, BadProgram, BadText, DiskFull
from sinktree.judge import judge
from sinktree.machine import run
from sinktree.meaning import evaluate
from sinktree.schemas import is_record
from sinktree.store import Store
from sinktree.syntax import program_text
from tests.disks import LESS, MORE, SMALL, TURN, Image, Watched, call, rows_of, texts
from tests.makers import SCHEMA, CodeMaker, ProgramMaker
from tests.rules import WORDS, check_rules


class Reads(unittest.TestCase):
    """Reads of a store against plain records: first promise, and the third one."""

    def compare(self, store, records, keys):
        rows = sorted(records.items())
        self.assertEqual(repr(store.scan("", "~")), repr(rows))
        for key in keys:
            self.assertEqual(repr(store.get(key)), repr(records.get(key)))
        low, high = keys[0], keys[-1]
        self.assertEqual(repr(store.scan(low, high)), repr([row for row in rows if low <= row[0] < high]))

    def test_small_programs(self):
        for seed, many, size in ((1, 3, 60), (2, 10, 100), (3, 40, 300), (4, 200, 1200)):
            maker = random.Random(seed)
            keys = maker.sample(WORDS, many)
            disk = Disk(size)
            store = Store(disk, SMALL)
            calls = []
            for number in range(400):
                key = maker.choice(keys)
                what = maker.random()
                if what < 0.4:
                    calls.append(("put", key, (maker.randint(0, 9), maker.random() < 0.5)))
                elif what < 0.55:
                    calls.append(("drop", key))
                else:
                    calls.append(("run", key, maker.choice((MORE, LESS, TURN, f"{MORE}; {TURN}", "n = (n mod 5)"))))
                call(store, calls[-1])
                if number % 40 == 20:
                    store.checkpoint()
                if number % 40 == 39:
                    store = Store(disk, SMALL)
                if number % 20 == 0:
                    self.compare(store, dict(rows_of(SMALL, calls)), keys)
            self.compare(store, dict(rows_of(SMALL, calls)), keys)
            self.assertEqual(store.deeds(), 400)

    def test_programs_at_random(self):
        maker = ProgramMaker(2)
        keys = maker.random.sample(WORDS, 12)
        disk = Disk(4000)
        store = Store(disk, SCHEMA)
        records = {}
        deeds = refused = 0
        for number in range(500):
            key = maker.random.choice(keys)
            what = maker.random.random()
            if what < 0.2:
                records[key] = maker.record()
                store.put(key, records[key])
            elif what < 0.25:
                records.pop(key, None)
                store.drop(key)
            else:
                program = maker.program(2)
                try:
                    store.run(key, program_text(program))
                except (BadProgram, BadText):
                    # Too large, or the text is too long.
                    refused += 1
                    continue
                if key in records:
                    records[key] = evaluate(SCHEMA, program, records[key])
                    self.assertTrue(is_record(SCHEMA, records[key]))
            deeds += 1
            if number % 50 == 49:
                store.checkpoint()
            if number % 100 == 99:
                store = Store(disk, SCHEMA)
            if number % 10 == 0:
                self.compare(store, records, sorted(keys))
        self.compare(store, records, sorted(keys))
        self.assertEqual(store.deeds(), deeds)
        self.assertGreater(deeds, 250)
        image = Image(disk.image())
        check_rules(image.root, image.nodes)

    def test_code_at_random(self):
        # Second promise: whoever wrote the code, what the judge accepts makes a record of each record.
        codes, maker = CodeMaker(22), ProgramMaker(22)
        disk = Disk(4000)
        store = Store(disk, SCHEMA)
        records = {}
        accepted = refused = 0
        for number in range(400):
            key = maker.random.choice(WORDS[:8])
            if number % 6 == 0:
                records[key] = maker.record()
                store.put(key, records[key])
                continue
            code = codes.code(codes.random.choice((5, 20, 60)))
            try:
                store.run_code(key, code)
            except BadCode as error:
                refused += 1
                with self.assertRaises(BadCode) as caught:
                    judge(SCHEMA, code)
                self.assertEqual((caught.exception.index, caught.exception.reason), (error.index, error.reason))
            else:
                accepted += 1
                if key in records:
                    records[key] = run(code, records[key])
                    self.assertTrue(is_record(SCHEMA, records[key]))
            if number % 80 == 79:
                store = Store(disk, SCHEMA)
            if number % 10 == 0:
                self.compare(store, records, WORDS[:8])
        self.compare(store, records, WORDS[:8])
        self.assertGreater(accepted, 100)

    def test_many_programs_for_one_key(self):
        # So many programs wait for one key that their code does not fit into one message.
        disk = Disk(2000)
        store = Store(disk, SMALL)
        for word in WORDS[:40]:
            store.put(word, (3, False))
        calls = [("put", word, (3, False)) for word in WORDS[:40]]
        for number in range(600):
            words = ("run", WORDS[17], (MORE, TURN, LESS, f"{TURN}; {MORE}", TURN)[number % 5])
            calls.append(words)
            call(store, words)
            if number % 25 == 0:
                self.assertEqual(store.get(WORDS[17]), dict(rows_of(SMALL, calls))[WORDS[17]])
        self.assertEqual(store.scan("", "~"), rows_of(SMALL, calls))
        self.assertEqual(Store(disk, SMALL).scan("", "~"), rows_of(SMALL, calls))


class Blind(unittest.TestCase):
    """Point 1: a program waits in the tree before the record is read."""

    def test_programs_wait_as_messages(self):
        disk = Watched(300)
        store = Store(disk, SMALL)
        for word in WORDS[:30]:
            store.put(word, (3, False))
        store.checkpoint()
        for word in (WORDS[2], WORDS[25]):
            store.run(word, MORE)
        store.checkpoint()
        waiting = [(key, messages) for node in Image(disk.image()).nodes.values() if node[0] == "branch" for key, messages in node[3]]
        self.assertIn(WORDS[25], dict(waiting))
        self.assertEqual((store.get(WORDS[2]), store.get(WORDS[25])), ((4, False), (4, False)))
        # Reads change nothing, on the disk neither.
        before = (Image(texts(disk)).nodes, disk.pending(), len(disk.operations))
        store.scan("", "~")
        self.assertEqual((Image(texts(disk)).nodes, disk.pending(), len(disk.operations)), before)

    def test_a_full_disk_loses_nothing(self):
        disk = Disk(60)
        store = Store(disk, SMALL)
        calls = []
        for number in range(400):
            words = ("put", WORDS[number], (number % 10, True))
            try:
                call(store, words)
            except DiskFull:
                break
            calls.append(words)
        self.assertGreater(len(calls), 20)
        self.assertEqual(store.scan("", "~"), rows_of(SMALL, calls))
        self.assertEqual(store.deeds(), len(calls))


if __name__ == "__main__":
    unittest.main()
