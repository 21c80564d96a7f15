"""Tests of opening a store and of its deeds: points 260, 264, 265 and 266."""

import copy
import unittest

from sinktree.compiler import compile_program
from sinktree.disk import Disk
from sinktree.errors import (
    BadCode, BadKey, BadProgram, BadRecord, BadSchema, BadText, DiskCrashed, DiskError, DiskFull,
)
from sinktree.judge import judge
from sinktree.store import LEAST_SECTORS, Store
from sinktree.syntax import parse_program
from sinktree.texts import encode
from tests.disks import (
    LESS, LONG, MORE, SMALL, TURN, WIDE, Image, Watched, Writer, areas, call, records_of, rows_of, texts, wide,
)
from tests.rules import LONG as LONG_RUN
from tests.rules import WORDS, TreeMaker, check_rules, result

NO_KEYS = (None, True, 0, 5, b"a", "", "A", "a b", "ann ", "abcdefghijklm", (), ("ann",), [], {}, object())
NO_RECORDS = (
    None, True, 0, "", "3, true", (), (3,), (3, False, 0), (10, False), (-1, False), (3, 0), (True, False), ("3", False),
    [3, False], {"n": 3}, (3, None), object(),
)
NO_SCHEMAS = (
    None, 5, "n", (), [("n", ("int", 0, 9))], (("n", ("int", 3, 2)),), (("if", ("flag",)),), SMALL + SMALL,
    (("n", ("text", 41)),),
)
# Each text that is no program, with its index.
NO_TEXTS = ((None, 0), (5, 0), (b"skip", 0), ("", 0), ("n = ", 4), ("n = n + 1", 6), ("n == 1", 2), ("skip;", 5), ("#", 0))
# Each program that is not accepted, with the reason.
NO_PROGRAMS = (
    ("n = (n + 1)", "range"), ("x = 1", "field"), ("n = true", "kind"), ("n = (on + 1)", "kind"),
    ("if n { skip } else { skip }", "kind"),
    ("n = min(9, max(0, (((1000000000 * 1000000000) * 1000000000) + n)))", "large"),
)
# Each code that is not accepted, with the index and the reason.
NO_CODES = (
    (None, 0, "shape"), ([], 0, "shape"), ("", 0, "shape"), ((("add",),) * 401, 0, "shape"), (((),), 0, "shape"),
    ((("push", 1), ("go",)), 1, "shape"), ((("jump", 1),), 0, "shape"), ((("push", 1),), 1, "left"),
    ((("add",),), 0, "empty"), ((("load", 2), ("store", 0)), 0, "field"), ((("load", 1), ("store", 0)), 1, "kind"),
    ((("load", 0), ("push", 1), ("add",), ("store", 0)), 3, "range"),
    ((("load", 1), ("unless", 1), ("push", 1)), 3, "merge"),
    ((("push", 10 ** 18), ("push", 1), ("add",), ("push", 0), ("mul",), ("store", 0)), 2, "large"),
)
# Code that no compiler makes: values that lie on the stack for long, a jump over what is not reached, an idle end.
ODD = (
    ("push", 4), ("load", 1), ("push", True), ("jump", 2), ("add",), ("store", 77), ("and",), ("unless", 2), ("push", 1),
    ("jump", 1), ("push", 3), ("add",), ("store", 0), ("jump", 0),
)


def odd(record):
    return (5, True) if record[1] else (7, False)


def opened(size=60, schema=SMALL):
    disk = Watched(size)
    store = Store(disk, schema)
    disk.operations.clear()
    return disk, store


def state(disk, store):
    return store.scan("", "~"), store.deeds(), store.generation(), disk.pending(), texts(disk)


def log_of(disk, generation):
    """Return the texts of the sectors of the log of a generation."""
    even, odd_first, span, _ = areas(disk.size())
    first = odd_first if generation % 2 else even
    return [disk.read(index) for index in range(first, first + span)]


class Opening(unittest.TestCase):
    def test_the_least_size(self):
        self.assertEqual(LEAST_SECTORS, 60)
        for size in (60, 61, 100):
            self.assertEqual(Store(Disk(size), SMALL).deeds(), 0)
        for size in (1, 2, 30, 59):
            disk = Disk(size)
            with self.assertRaises(DiskError):
                Store(disk, SMALL)
            self.assertEqual((disk.pending(), texts(disk)), (0, [""] * size))

    def test_what_is_no_schema(self):
        for schema in NO_SCHEMAS:
            for size in (60, 59, 1):
                with self.subTest(schema=schema, size=size):
                    disk = Disk(size)
                    with self.assertRaises(BadSchema):
                        Store(disk, schema)
                    self.assertEqual((disk.pending(), disk.image()), (0, [""] * size))

    def test_a_disk_that_is_down(self):
        disk = Disk(60)
        disk.arm(0)
        self.assertRaises(DiskCrashed, disk.sync)
        self.assertRaises(DiskCrashed, Store, disk, SMALL)
        self.assertRaises(BadSchema, Store, disk, ())

    def test_a_new_store(self):
        disk, store = opened()
        self.assertEqual((store.deeds(), store.generation(), store.scan("", "~")), (0, 1, []))
        self.assertIsNone(store.get("ann"))
        self.assertEqual(disk.pending(), 0)
        image = Image(disk.image())
        self.assertEqual((image.generation, image.sector, image.schema, image.deeds, image.log), (1, 1, SMALL, 0, []))
        self.assertEqual(image.nodes, {image.root: ("leaf", ())})
        self.assertEqual(disk.read(0), "")

    def test_the_areas(self):
        # 4 divides size - 2 for 62 and 66, and not for the others.
        for size in (60, 61, 62, 63, 64, 65, 66, 103):
            with self.subTest(size=size):
                even, odd_first, span, slots = areas(size)
                self.assertEqual(span, {60: 14, 61: 14, 62: 15, 63: 15, 64: 15, 65: 15, 66: 16, 103: 25}[size])
                disk, store = opened(size)
                for generation in (1, 2, 3):
                    for number in range(span):
                        self.assertEqual(store.generation(), generation)
                        store.drop("ann")
                        first = odd_first if generation % 2 else even
                        index, text = disk.operations[-1]
                        self.assertEqual((index, text), (first + number, f"{generation} {number} 0 t2:s4:drops3:ann"))
                    self.assertTrue(all(slots <= slot < size for slot in Image(disk.image()).slots))
                    before = len(disk.operations)
                    store.checkpoint()
                    for operation in disk.operations[before:]:
                        if operation is not None:
                            self.assertTrue(slots <= operation[0] < size or operation[0] < 2)

    def test_all_slots_are_used(self):
        for size in (60, 61, 62, 63):
            disk = Watched(size)
            store = Store(disk, WIDE)
            with self.assertRaises(DiskFull):
                for word in WORDS:
                    store.put(word, wide("x"))
                    store.checkpoint()
            written = sorted({operation[0] for operation in disk.operations if operation is not None})
            self.assertLessEqual(set(written), set(range(size)))
            self.assertEqual([index for index in written if index >= areas(size)[3]], list(range(areas(size)[3], size)))

    def test_another_schema(self):
        other = (("n", ("int", 0, 9)), ("of", ("flag",)))
        for schema in (other, SMALL[:1], SMALL[::-1], (("n", ("int", 0, 8)), SMALL[1]), (("n", ("flag",)), SMALL[1])):
            disk, store = opened()
            store.put("ann", (3, True))
            store.sync()
            before = texts(disk)
            with self.assertRaises(BadSchema):
                Store(disk, schema)
            self.assertEqual((texts(disk), disk.pending()), (before, 0))
            self.assertEqual(Store(disk, SMALL).get("ann"), (3, True))

    def test_opened_again_and_again(self):
        disk, store = opened()
        calls = []
        for number in range(20):
            words = ("put", WORDS[number], (number // 3, True))
            calls.append(words)
            call(store, words)
            before = texts(disk)
            with self.assertRaises(BadSchema):
                Store(disk, WIDE)
            self.assertEqual(texts(disk), before)
            store = Store(disk, copy.deepcopy(SMALL))
            self.assertEqual((store.generation(), store.deeds()), (number + 2, number + 1))
            self.assertEqual(store.scan("", "~"), rows_of(SMALL, calls))
            self.assertEqual(disk.pending(), 0)
            image = Image(disk.image())
            self.assertEqual((image.deeds, image.log, image.generation), (number + 1, [], number + 2))


class NoHead(unittest.TestCase):
    TEXTS = (
        "", " ", "HEAD", "HEAD ", "HEAD 1", "HEAD 1 ", "HEAD 1 30 ", "HEAD 1 30 0", "HEAD 01 30", "HEAD 1 030", "HEAD +1 30",
        "HEAD 1 +30", "HEAD -1 30", "HEAD 1 -30", "HEAD  1 30", "HEAD 1  30", " HEAD 1 30", "head 1 30", "HEAD1 30", "HEAD x 30",
        "HEAD 1 x", "HEAD 1.0 30", "HEAD 1_0 30", "HEAD \u0661 30", "HEAD 1 \u0663", "HEADS 1 30", "1 30", "- ", "x" * 120,
        "HEAD 1 30\n", "HEAD\t1 30", "HEAD 00 30", "HEAD 1 -", "HEAD  30", "HEAD - 30",
    )

    def expect_new(self, disk):
        store = Store(disk, SMALL)
        self.assertEqual((store.deeds(), store.generation(), store.scan("", "~")), (0, 1, []))
        self.assertEqual(disk.pending(), 0)
        self.assertEqual(Image(disk.image()[:1] * 0 + [""] + disk.image()[1:]).generation, 1)
        return store

    def test_texts_that_are_no_heads(self):
        for first in self.TEXTS:
            for second in (first, "", "HEAD 5 05"):
                with self.subTest(first=first, second=second):
                    disk, store = opened()
                    store.put("ann", (3, True))
                    store.checkpoint()
                    disk.write(0, first)
                    disk.write(1, second)
                    self.expect_new(disk)

    def test_what_else_it_holds(self):
        for text in ("x", "- n", "31 x", "HEAD 3 31", "1 0 0 x", "t2:s4:drops3:ann"):
            disk = Disk(60)
            for index in range(2, 60):
                disk.write(index, text)
            self.expect_new(disk)

    def test_old_deeds_do_not_come_back(self):
        # Pieces of logs stand where the logs of the new store will be, of the very generations that it will have.
        disk = Disk(200)
        even, odd_first, span, _ = areas(200)
        for place in range(1, span):
            disk.write(even + place, f"{2 * (place % 14)} {place} 0 t3:s3:puts3:evet2:i1;y")
            disk.write(odd_first + place, f"{2 * (place % 14) + 1} {place} 0 t3:s3:puts3:evet2:i1;y")
        disk.write(odd_first, "1 0 0 t3:s3:puts3:evet2:i1;y")
        calls = []
        store = self.expect_new(disk)
        for number in range(30):
            self.assertEqual((store.deeds(), store.scan("", "~")), (len(calls), rows_of(SMALL, calls)))
            for _ in range((number * 7) % 15):
                calls.append(("put", WORDS[len(calls) % 50], (number // 4, True)))
                call(store, calls[-1])
            store.sync()
            disk.crash([])
            store = Store(disk, SMALL)

    def test_one_head(self):
        for text in self.TEXTS:
            disk, store = opened()
            store.put("ann", (3, True))
            store.checkpoint()
            store.put("bob", (4, False))
            store.sync()
            self.assertEqual(disk.read(0)[:7], "HEAD 2 ")
            disk.write(1, text)
            store = Store(disk, SMALL)
            self.assertEqual((store.generation(), store.deeds()), (3, 2))
            self.assertEqual(store.scan("", "~"), [("ann", (3, True)), ("bob", (4, False))])
            disk.write(0, text)
            store = Store(disk, SMALL)
            self.assertEqual((store.generation(), store.deeds()), (4, 2))

    def test_the_older_head_alone(self):
        disk, store = opened()
        store.put("ann", (3, True))
        store.sync()
        kept = texts(disk)
        store.checkpoint()
        self.assertEqual(store.generation(), 2)
        # Nothing of generation 1 has been written over yet.
        disk.write(0, "")
        self.assertEqual(texts(disk)[2:30], kept[2:30])
        store = Store(disk, SMALL)
        self.assertEqual((store.generation(), store.deeds(), store.get("ann")), (2, 1, (3, True)))


class Written(unittest.TestCase):
    """Disks that the test writes by itself."""

    def test_a_leaf(self):
        for generation in (0, 1, 2, 9, 10, 99, 100, 12345, 10 ** 12):
            writer = Writer(70)
            nodes = {4: ("leaf", (("ann", (3, True)), ("bob", (9, False)), ("eve", (0, True))))}
            writer.checkpoint(generation % 2, generation, SMALL, 17, 4, nodes)
            writer.log(generation, [("put", "carl", (1, False)), ("drop", "ann"),
                                    ("run", "eve", compile_program(SMALL, parse_program(MORE)))])
            disk = writer.done()
            store = Store(disk, SMALL)
            self.assertEqual((store.generation(), store.deeds()), (generation + 1, 20))
            self.assertEqual(store.scan("", "~"), [("bob", (9, False)), ("carl", (1, False)), ("eve", (1, True))])
            image = Image(disk.image())
            self.assertEqual((image.generation, image.sector, image.deeds), (generation + 1, (generation + 1) % 2, 20))

    def test_two_heads(self):
        for older, newer in ((1, 2), (2, 3), (9, 10), (10, 11), (99, 100), (0, 1), (3, 8)):
            for swapped in (False, True):
                writer = Writer(90)
                for generation in (older, newer):
                    nodes = {0: ("leaf", (("ann", (generation % 7, True)),))}
                    writer.checkpoint(int(swapped) ^ (generation == newer), generation, SMALL, generation, 0, nodes)
                    if older % 2 != newer % 2 or generation == newer:
                        writer.log(generation, [("put", "bob", (generation % 9, False))])
                store = Store(writer.done(), SMALL)
                self.assertEqual((store.generation(), store.deeds()), (newer + 1, newer + 1))
                self.assertEqual(store.scan("", "~"), [("ann", (newer % 7, True)), ("bob", (newer % 9, False))])

    def test_trees_of_several_levels(self):
        for seed in range(8):
            maker = TreeMaker(seed, 1 + seed % 3, 0.3)
            check_rules(maker.root, maker.nodes)
            size = 200 + 4 * sum(len(encode(node)) // 100 + 1 for node in maker.nodes.values())
            writer = Writer(size)
            writer.checkpoint(1, 7, SMALL, 1000, maker.root, maker.nodes)
            deeds = []
            for number in range(10):
                key = maker.random.choice(maker.keys)
                deeds.append((("put", key, (number, True)), ("drop", key), ("run", key, LONG_RUN[1][:30]))[number % 3])
            writer.log(7, deeds)
            disk = writer.done()
            expected = dict(reference_rows(maker))
            for deed in deeds:
                if deed[0] == "put":
                    expected[deed[1]] = deed[2]
                elif deed[0] == "drop":
                    expected.pop(deed[1], None)
            kept = Image(disk.image())
            self.assertEqual((kept.nodes, kept.log), (maker.nodes, deeds))
            store = Store(disk, SMALL)
            self.assertEqual((store.generation(), store.deeds()), (8, 1010))
            self.assertEqual(store.scan("", "~"), sorted(expected.items()))
            image = Image(disk.image())
            check_rules(image.root, image.nodes)
            # The nodes that the deeds did not touch still have their pages.
            same = [ident for ident in kept.nodes if image.nodes.get(ident) == kept.nodes[ident]]
            self.assertTrue(all(image.places[ident] == kept.places[ident] for ident in same))
            self.assertFalse(set(image.slots) & set(kept.slots) - {slot for ident in same for slot in kept.places[ident]})
            for word in maker.keys:
                store.put(word, (1, False))
                expected[word] = (1, False)
            self.assertEqual(store.scan("", "~"), sorted(expected.items()))

    def test_a_log_that_ends_early(self):
        writer = Writer(70)
        writer.checkpoint(1, 5, SMALL, 0, 0, {0: ("leaf", ())})
        writer.log(5, [("put", "ann", (1, True)), ("put", "bob", (2, True)), ("put", "carl", (3, True))])
        first = areas(70)[1]
        for text in ("", "4 1 0 t2:s4:drops3:ann", "5 1 1 t2:s4:drops3:ann", "5 2 0 t2:s4:drops3:ann", "x"):
            disk = Disk(70)
            for index, sector in enumerate(texts(writer.disk)):
                disk.write(index, sector)
            disk.write(first + 1, text)
            disk.write(first + 2, "")
            store = Store(disk, SMALL)
            self.assertEqual((store.deeds(), store.scan("", "~")), (1, [("ann", (1, True))]))

    def test_a_log_of_another_generation(self):
        for generation in (3, 7, 4, 6):
            writer = Writer(70)
            writer.checkpoint(1, 5, SMALL, 2, 0, {0: ("leaf", ())})
            writer.log(generation, [("put", "ann", (1, True))])
            store = Store(writer.done(), SMALL)
            self.assertEqual((store.deeds(), store.scan("", "~")), (2, []))

    def test_an_opening_without_room(self):
        # All slots but two are in use, and the deed of the log makes another leaf and another page of the tree.
        nodes = {0: ("leaf", tuple((word, wide("x")) for word in WORDS[:3]))}
        size = 60
        writer = Writer(size)
        nodes[1] = ("leaf", tuple((word, wide("y")) for word in WORDS[3:5]))
        nodes[2] = ("branch", (WORDS[3],), (0, 1), ())
        writer.checkpoint(0, 4, WIDE, 7, 2, nodes)
        writer.log(4, [("put", word, wide("z")) for word in WORDS[:3]])
        disk = writer.done()
        before = disk.image()
        for _ in range(3):
            with self.assertRaises(DiskFull):
                Store(disk, WIDE)
            self.assertEqual(Image(texts(disk)).nodes, nodes)
            self.assertEqual(texts(disk)[:30], before[:30])
        for survivors in ([], [True] * 99, [True, False] * 50):
            disk.crash(survivors)
            with self.assertRaises(DiskFull):
                Store(disk, WIDE)
            self.assertEqual(Image(texts(disk)).nodes, nodes)
        self.assertRaises(BadSchema, Store, disk, SMALL)


def reference_rows(maker):
    """Return the rows of the tree of a maker, by its nodes alone."""
    rows = [(key, result(maker.root, maker.nodes, key)) for key in maker.keys]
    return [row for row in rows if row[1] is not None]


class Checks(unittest.TestCase):
    def refuse(self, error, words, **attributes):
        disk, store = self.disk, self.store
        before = state(disk, store)
        with self.subTest(words=words):
            with self.assertRaises(error) as caught:
                call(store, words)
            self.assertIs(type(caught.exception), error)
            for name, value in attributes.items():
                self.assertEqual(getattr(caught.exception, name), value)
            self.assertEqual(state(disk, store), before)

    def setUp(self):
        self.disk, self.store = opened()
        self.store.put("ann", (3, True))
        self.store.put("bob", (9, False))

    def test_keys(self):
        for key in NO_KEYS:
            self.refuse(BadKey, ("put", key, (3, True)))
            self.refuse(BadKey, ("drop", key))
            self.refuse(BadKey, ("run", key, MORE))
            self.refuse(BadKey, ("run_code", key, ODD))

    def test_records(self):
        for record in NO_RECORDS:
            self.refuse(BadRecord, ("put", "ann", record))
            self.refuse(BadRecord, ("put", "new", record))

    def test_texts(self):
        for text, index in NO_TEXTS:
            self.refuse(BadText, ("run", "ann", text), index=index)
            self.refuse(BadText, ("run", "new", text), index=index)

    def test_programs(self):
        for text, reason in NO_PROGRAMS:
            self.refuse(BadProgram, ("run", "ann", text), reason=reason)
            self.refuse(BadProgram, ("run", "new", text), reason=reason)

    def test_codes(self):
        for code, index, reason in NO_CODES:
            self.refuse(BadCode, ("run_code", "ann", code), index=index, reason=reason)
            self.refuse(BadCode, ("run_code", "new", code), index=index, reason=reason)

    def test_two_faults(self):
        for key in NO_KEYS:
            for record in NO_RECORDS:
                self.refuse(BadKey, ("put", key, record))
            for text, _ in NO_TEXTS + NO_PROGRAMS:
                self.refuse(BadKey, ("run", key, text))
            for code, _, _ in NO_CODES:
                self.refuse(BadKey, ("run_code", key, code))
        # A text that is no program for its form, and would not be accepted for its fields either.
        self.refuse(BadText, ("run", "ann", "x = 1; n ="), index=10)

    def test_a_full_log(self):
        # The checks come before a checkpoint is made for room.
        while Image(texts(self.disk)).generation == 1 and len(Image(texts(self.disk)).log) < 14:
            self.store.drop("ann")
        self.test_keys()
        self.test_records()
        self.test_texts()
        self.test_programs()
        self.test_codes()
        self.assertEqual(self.store.generation(), 1)
        self.store.drop("ann")
        self.assertEqual(self.store.generation(), 2)

    def test_what_the_calls_return(self):
        for words in (("put", "ann", (1, True)), ("drop", "bob"), ("run", "ann", MORE), ("run_code", "ann", ODD), ("sync",),
                      ("checkpoint",)):
            self.assertIsNone(call(self.store, words))

    def test_get_and_scan(self):
        for key in NO_KEYS + ("new",):
            self.assertIsNone(self.store.get(key))
        self.assertEqual(self.store.get("ann"), (3, True))
        for low, high, rows in (
            ("", "~", ["ann", "bob"]), ("ann", "bob", ["ann"]), ("anna", "bob ", ["bob"]), ("b", "a", []), ("", "", []),
            ("bob", "bob", []), ("bob", "z", ["bob"]),
        ):
            self.assertEqual([key for key, _ in self.store.scan(low, high)], rows)


class Deeds(unittest.TestCase):
    def test_each_deed(self):
        disk, store = opened()
        code = compile_program(SMALL, parse_program(MORE))
        for number, (words, deed, records) in enumerate((
            (("put", "ann", (3, True)), ("put", "ann", (3, True)), {"ann": (3, True)}),
            (("run", "ann", MORE), ("run", "ann", code), {"ann": (4, True)}),
            (("run", "bob", MORE), ("run", "bob", code), {"ann": (4, True)}),
            (("run", "ann", "  n=min( 9,(n+1))"), ("run", "ann", code), {"ann": (5, True)}),
            (("put", "bob", (9, False)), ("put", "bob", (9, False)), {"ann": (5, True), "bob": (9, False)}),
            (("run_code", "bob", ODD), ("run", "bob", ODD), {"ann": (5, True), "bob": (7, False)}),
            (("drop", "ann"), ("drop", "ann"), {"bob": (7, False)}),
            (("drop", "eve"), ("drop", "eve"), {"bob": (7, False)}),
        )):
            before = len(disk.operations)
            call(store, words)
            self.assertEqual((store.deeds(), store.generation()), (number + 1, 1))
            self.assertEqual(dict(store.scan("", "~")), records)
            text = encode(deed)
            self.assertEqual("".join(text.split(" ", 3)[3] for _, text in disk.operations[before:]), text)
            self.assertEqual(Image(texts(disk)).log[-1], deed)
            self.assertEqual(len(Image(texts(disk)).log), number + 1)
            # A deed does not sync.
            self.assertNotIn(None, disk.operations)
            self.assertEqual(disk.pending(), len(disk.operations))
            self.assertEqual(Image(disk.image()).log, [])
        store.sync()
        self.assertEqual((disk.pending(), len(Image(disk.image()).log)), (0, 8))
        self.assertEqual(disk.operations[-1], None)

    def test_code_that_no_compiler_makes(self):
        self.assertIsNone(judge(SMALL, ODD))
        for record in ((0, False), (9, True), (3, False)):
            disk, store = opened()
            store.put("ann", record)
            store.run_code("ann", ODD)
            self.assertEqual(store.get("ann"), odd(record))
            store.run_code("ann", ODD)
            store.run_code("ann", ())
            self.assertEqual(store.get("ann"), odd(odd(record)))
            store = Store(disk, SMALL)
            self.assertEqual(store.get("ann"), odd(odd(record)))
            self.assertEqual(store.deeds(), 4)

    def test_one_and_true_stay_apart(self):
        # Python takes these two codes, and the branches in which they wait, for equal.
        codes = [(("push", 1), ("push", 1), ("same",), ("store", 1)), (("push", True), ("push", True), ("same",), ("store", 1))]
        self.assertEqual(codes[0], codes[1])
        for first, second in (codes, codes[::-1]):
            writer = Writer(60)
            writer.checkpoint(0, 2, SMALL, 9, 5, {
                0: ("leaf", (("b", (3, False)), ("h", (3, False)))), 1: ("leaf", (("m", (3, False)), ("p", (3, False)))),
                5: ("branch", ("m",), (0, 1), (("b", (("run", first),)),)),
            })
            disk = writer.done()
            store = Store(disk, SMALL)
            for key in "acdefg":
                store.drop(key)
            store.run_code("b", second)
            store.checkpoint()
            nodes = Image(disk.image()).nodes
            self.assertEqual(repr(dict(nodes[0][1])["b"]), "(3, True)")
            waiting = [messages for node in nodes.values() if node[0] == "branch" for _, messages in node[3]]
            self.assertEqual(repr(waiting), repr([(("run", second),)]))

    def test_a_full_log(self):
        disk, store = opened()
        for number in range(14):
            store.put(WORDS[number], (number // 2, True))
        self.assertEqual((store.generation(), len(disk.operations)), (1, 14))
        store.drop(WORDS[3])
        self.assertEqual((store.generation(), store.deeds()), (2, 15))
        # First the checkpoint, with the deeds before, then the record in the new log.
        self.assertEqual(disk.operations[-1], (2, f"2 0 0 t2:s4:drops3:{WORDS[3]}"))
        self.assertEqual(disk.operations[-2], None)
        self.assertEqual(disk.operations[-3][0], 0)
        self.assertEqual(disk.operations[-4], None)
        self.assertEqual((Image(disk.image()).deeds, Image(disk.image()).log), (14, []))
        self.assertEqual(disk.pending(), 1)
        self.assertEqual(Image(texts(disk)).log, [("drop", WORDS[3])])
        self.assertEqual(len(store.scan("", "~")), 13)

    def test_a_log_with_some_room(self):
        # A deed of several pieces that does not fit into the rest of the log; the rest stays unused.
        disk, store = opened(60, WIDE)
        self.assertEqual(len(encode(("put", "aaa", wide("x")))) // 100, 3)
        for number in range(3):
            store.put(WORDS[number], wide("x"))
        self.assertEqual(log_of(disk, 1)[12:], ["", ""])
        store.put(WORDS[3], wide("y"))
        self.assertEqual((store.generation(), store.deeds()), (2, 4))
        self.assertEqual(log_of(disk, 1)[12:], ["", ""])
        self.assertEqual([text[:6] for text in log_of(disk, 2)[:5]], ["2 0 3 ", "2 1 2 ", "2 2 1 ", "2 3 0 ", ""])

    def test_just_enough_room(self):
        disk, store = opened(60, WIDE)
        for number in range(3):
            store.put(WORDS[number], wide("x"))
        store.drop(WORDS[0])
        store.drop(WORDS[1])
        self.assertEqual((store.generation(), log_of(disk, 1)[13]), (1, f"1 13 0 t2:s4:drops3:{WORDS[1]}"))
        store.drop(WORDS[2])
        self.assertEqual((store.generation(), store.scan("", "~")), (2, []))

    def test_a_deed_that_is_longer_than_the_log(self):
        disk, store = opened()
        store.put("ann", (3, True))
        code = compile_program(SMALL, parse_program(LONG))
        self.assertGreater(len(encode(("run", "ann", code))), 1400)
        for number in range(4):
            for words in (("run", "ann", LONG), ("run_code", "ann", code)):
                before = (store.scan("", "~"), store.deeds(), store.generation())
                with self.assertRaises(DiskFull):
                    call(store, words)
                self.assertEqual((store.scan("", "~"), store.deeds()), before[:2])
                self.assertEqual(store.generation(), before[2] + 1)
                self.assertEqual(log_of(disk, store.generation()), [
                    text for text in log_of(disk, store.generation()) if not text.startswith(f"{store.generation()} ")
                ])
            store.run("ann", MORE)
        self.assertEqual((store.get("ann"), store.deeds()), ((7, True), 5))
        store.sync()
        disk.crash([])
        store = Store(disk, SMALL)
        self.assertEqual((store.get("ann"), store.deeds()), ((7, True), 5))

    def test_disk_full(self):
        disk, store = opened(60, WIDE)
        calls = []
        full = 0
        for number in range(60):
            words = ("put", WORDS[number % 20], wide("abcdefgh"[number % 8]))
            before = (store.scan("", "~"), store.deeds(), store.generation())
            try:
                call(store, words)
            except DiskFull:
                full += 1
                self.assertEqual((store.scan("", "~"), store.deeds()), before[:2])
                self.assertEqual(store.generation(), before[2])
                # What still has room in the log is performed.
                self.assertRaises(DiskFull, store.checkpoint)
            else:
                calls.append(words)
            self.assertEqual((store.scan("", "~"), store.deeds()), (rows_of(WIDE, calls), len(calls)))
        self.assertGreater(full, 10)
        # The log has one or two sectors left, for short deeds.
        performed = 0
        while True:
            try:
                store.drop(WORDS[performed])
            except DiskFull:
                break
            calls.append(("drop", WORDS[performed]))
            performed += 1
            if performed == 20:
                break
        self.assertGreater(performed, 0)
        self.assertEqual((store.scan("", "~"), store.deeds()), (rows_of(WIDE, calls), len(calls)))
        self.assertEqual(dict(store.scan("", "~")), records_of(WIDE, calls))

    def test_the_arguments_stay(self):
        _, store = opened()
        record, code = (3, True), tuple(ODD)
        kept = copy.deepcopy((record, code))
        store.put("ann", record)
        store.run_code("ann", code)
        store.run("ann", TURN)
        store.run("ann", LESS)
        self.assertEqual((record, code), kept)


if __name__ == "__main__":
    unittest.main()
