"""Tests of scripts: points 270, 271 and 272."""

import copy
import itertools
import random
import unittest

from sinktree.errors import BadSchema, BadText, DiskError, DiskFull
from sinktree.schemas import is_record
from sinktree.script import parse_record, record_text, run_script
from tests.disks import LONG, WIDE
from tests.makers import SCHEMA, ProgramMaker

SMALL = (("n", ("int", 0, 9)), ("t", ("text", 5)))
FLAGS = (("n", ("int", -20, 20)), ("on", ("flag",)), ("state", ("word", ("new", "old", "true"))), ("note", ("text", 40)))
PERCENT = chr(37)
# Each record of FLAGS with its text.
ROWS = (
    ((0, False, "new", ""), '0, false, new, ""'),
    ((7, True, "old", "a"), '7, true, old, "a"'),
    ((-7, True, "true", "a, b"), '-7, true, true, "a, b"'),
    ((20, False, "new", '"'), '20, false, new, "\\""'),
    ((-20, False, "new", "\\"), '-20, false, new, "\\\\"'),
    ((1, False, "new", '\\"'), '1, false, new, "\\\\\\""'),
    ((1, False, "new", '"\\'), '1, false, new, "\\"\\\\"'),
    ((1, False, "new", '", "'), '1, false, new, "\\", \\""'),
    ((1, False, "new", " "), '1, false, new, " "'),
    ((1, False, "new", "  a  "), '1, false, new, "  a  "'),
    ((1, False, "new", ","), '1, false, new, ","'),
    ((1, False, "new", "n\\n"), '1, false, new, "n\\\\n"'),
    ((1, False, "new", '"' * 40), '1, false, new, "' + '\\"' * 40 + '"'),
    ((1, False, "new", "\\" * 40), '1, false, new, "' + "\\\\" * 40 + '"'),
    ((1, False, "new", "~" * 40), '1, false, new, "' + "~" * 40 + '"'),
)


class Lines(unittest.TestCase):
    def expect(self, text, printed, schema=SMALL, sectors=60):
        with self.subTest(text=text):
            if not isinstance(text, str):
                text = "\n".join(text)
            self.assertEqual(run_script(schema, sectors, text), printed)


class Records(unittest.TestCase):
    def refuse(self, schema, text):
        with self.subTest(schema=schema, text=text):
            with self.assertRaises(BadText) as caught:
                parse_record(schema, text)
            self.assertEqual(caught.exception.index, 0)

    def test_rows(self):
        for record, text in ROWS:
            with self.subTest(text=text):
                self.assertEqual(record_text(FLAGS, record), text)
                self.assertEqual(repr(parse_record(FLAGS, text)), repr(record))

    def test_each_kind_alone(self):
        for kind, pairs in (
            (("int", -10 ** 9, 10 ** 9), ((0, "0"), (10 ** 9, "1000000000"), (-10 ** 9, "-1000000000"), (10, "10"), (-1, "-1"))),
            (("int", 5, 5), ((5, "5"),)),
            (("flag",), ((True, "true"), (False, "false"))),
            (("word", ("a", "abcdefghijkl")), (("a", "a"), ("abcdefghijkl", "abcdefghijkl"))),
            (("text", 0), (("", '""'),)),
            (("text", 1), (("", '""'), ("x", '"x"'), ('"', '"\\""'), ("\\", '"\\\\"'), (",", '","'))),
        ):
            schema = (("f", kind),)
            for value, text in pairs:
                self.assertEqual(record_text(schema, (value,)), text)
                self.assertEqual(repr(parse_record(schema, text)), repr((value,)))

    def test_integers(self):
        schema = (("n", ("int", -20, 20)),)
        for text in ("21", "-21", "100", "-0", "00", "01", "-01", "+1", "--1", "- 1", "1-", "1.0", "1_0", "0x1", "", "-", "+", "1e1",
                     "\u0661", "\u00b2", "\uff11", "true", '"1"', "a", "9" * 5000, "0" * 5000, "-" + "9" * 5000, " 1", "1 ", "1\n"):
            self.refuse(schema, text)
            self.refuse((("on", ("flag",)),) + schema, "true, " + text)
            self.refuse(schema + (("on", ("flag",)),), text + ", true")
        self.refuse((("n", ("int", -10 ** 9, 10 ** 9)),), "1000000001")
        self.refuse((("n", ("int", -10 ** 9, 10 ** 9)),), "-1000000001")
        self.refuse((("n", ("int", -10 ** 9, 10 ** 9)),), "10000000000")
        self.refuse((("n", ("int", 3, 9)),), "2")
        self.refuse((("n", ("int", 3, 9)),), "0")

    def test_flags_and_words(self):
        for text in ("True", "False", "1", "0", "yes", "", '"true"', "truefalse", "true ", " true", "'true", "tru", "truee", "none"):
            self.refuse((("on", ("flag",)),), text)
        for text in ("", "newer", "ne", "New", "'new", '"new"', "new old", "new,old", "true", " new", "new ", "0", "none"):
            self.refuse((("state", ("word", ("new", "old"))),), text)

    def test_texts(self):
        schema = (("t", ("text", 5)),)
        for text in (
            "", '"', '"a', 'a"', "a", '"a""', '""a"', '"a"b', '"a" ', ' "a"', '"abcdef"', '"\\"', '"\\', '"\\\\\\"', '"a\\b"', '"\\n"',
            '"\\,"', '"\\ "', '"a\\"', "'a'", '"""', '"""" ', '"\n"', '"\t"', f'"{PERCENT}"', '"\u00e9"', '"' + chr(127) + '"', "0",
            '"\\u0041"', '"' + '\\"' * 6 + '"', '"' + "\\\\" * 6 + '"', "\\", '\\"', '\\"a\\"', '"a", "b"', '"a",',
        ):
            self.refuse(schema, text)
            self.refuse((("on", ("flag",)),) + schema, "true, " + text)
            self.refuse(schema + (("on", ("flag",)),), text + ", true")
        self.refuse((("t", ("text", 0)),), '" "')
        self.refuse((("t", ("text", 40)),), '"' + "x" * 41 + '"')

    def test_between_the_values(self):
        schema = (("n", ("int", 0, 9)), ("on", ("flag",)), ("t", ("text", 5)))
        self.assertEqual(parse_record(schema, '1, true, "a"'), (1, True, "a"))
        for text in ('1, true', '1, true, ', '1, true, "a", 1', '1, true, "a", ', '1, true, "a",', '1,true, "a"', '1, true,"a"',
                     '1  true, "a"', '1 true "a"', '1,  true, "a"', '1 , true, "a"', '1, true , "a"', '1, true,  "a"', '1, , "a"',
                     '1; true; "a"', ', 1, true, "a"', '(1, true, "a")', '1, true, "a")', '1, true, "a"\n', '1,\ntrue, "a"', "",
                     '1,\ttrue, "a"', 'true, 1, "a"', '1, "a", true', "1"):
            self.refuse(schema, text)

    def test_values_that_are_no_strings(self):
        for value in (None, True, 0, 5, 1.5, b'1, "a"', (1, "a"), ["1"], ("1, ", '"a"'), {}, {1: 2}, object(), str):
            self.refuse(SMALL, value)
            self.refuse(SMALL[:1], value)

    def test_each_short_text(self):
        # There is one text for each record, so all other texts are refused.
        for schema, letters, size in (
            ((("t", ("text", 2)),), '"\\,a ', 6), ((("n", ("int", -12, 12)),), "-+012 ,", 4),
            ((("on", ("flag",)), ("t", ("text", 1))), ('true', 'false', ', ', '"', '\\', ','), 6),
        ):
            found = {}
            for many in range(size + 1):
                for parts in itertools.product(letters, repeat=many):
                    text = "".join(parts)
                    try:
                        record = parse_record(schema, text)
                    except BadText:
                        continue
                    self.assertTrue(is_record(schema, record))
                    self.assertEqual(record_text(schema, record), text)
                    self.assertEqual(found.setdefault(record, text), text)
            self.assertGreaterEqual(len(found), 8)
            if letters == '"\\,a ':
                values = {value for many in range(3) for value in map("".join, itertools.product(letters, repeat=many))}
                self.assertEqual({record[0] for record in found}, values)

    def test_records_at_random(self):
        maker = ProgramMaker(271)
        for _ in range(300):
            record = maker.record()
            text = record_text(SCHEMA, record)
            self.assertEqual(repr(parse_record(SCHEMA, text)), repr(record))
            place = maker.random.randrange(len(text))
            changed = text[:place] + maker.random.choice(' ,"\\0q-') + text[place + maker.random.randint(0, 1):]
            try:
                other = parse_record(SCHEMA, changed)
            except BadText as error:
                self.assertEqual(error.index, 0)
            else:
                self.assertEqual(record_text(SCHEMA, other), changed)

    def test_the_arguments_stay(self):
        record = (1, True, "new", "a")
        kept = copy.deepcopy((FLAGS, record))
        record_text(FLAGS, record)
        self.assertEqual((FLAGS, record), kept)


class Commands(Lines):
    def test_the_example(self):
        self.expect('put ann 3, "x"\nrun ann n = min(9, (n + 4))\nget ann\nget bob\ngo',
                    ['ann 7, "x"', "bob none", "line 5 command"])

    def test_put_get_and_drop(self):
        self.expect(['put ann 3, "x"', "get ann", 'put ann 4, ""', "get ann", "drop ann", "get ann", "drop ann", "drop bob"],
                    ['ann 3, "x"', 'ann 4, ""', "ann none"])

    def test_run(self):
        self.expect(["run ann n = 3", "get ann", 'put ann 3, "x"', "run ann n = min(9, (n + 4))", "get ann", "run ann skip",
                     'run ann t = cut(join(t, " y;  # "), 5); n = 1', "get ann"],
                    ["ann none", 'ann 7, "x"', 'ann 1, "x y; "'])

    def test_scan(self):
        puts = ['put bob 1, "a"', 'put ann 2, "b"', 'put eve 3, ""', 'put carl 4, ""', "drop carl"]
        a, b, e = 'ann 2, "b"', 'bob 1, "a"', 'eve 3, ""'
        for low, high, rows in (
            ("a", "z", [a, b, e]), ("ann", "eve", [a, b]), ("anna", "evea", [b, e]), ("b", "a", []), ("ann", "ann", []),
            ("", "z", [a, b, e]), ("", "", []), ("b", "", []), ("", "b", [a]), ("0", "~", [a, b, e]), ("A", "ZZZ", []),
            ("abcdefghijklmnopq", "zzzzzzzzzzzzzzz", [a, b, e]), ("#", '"', []), ("bob", "bob!", [b]),
        ):
            self.expect(puts + [f"scan {low} {high}"], rows + ["end"])
        self.expect("scan a z", ["end"])

    def test_a_scan_of_many(self):
        keys = [a + b for a in "abcdefgh" for b in "abcdefgh"]
        rows = [f'{key} {index // 9}, "x"' for index, key in enumerate(keys)]
        self.expect([f"put {row}" for row in reversed(rows)] + ["scan a zz", "scan bb bd"], rows + ["end"] + rows[9:11] + ["end"],
                    sectors=300)

    def test_deeds(self):
        self.expect("deeds", ["deeds 0"])
        self.expect(['put ann 3, "x"', "deeds", "drop ann", "drop bob", "run ann skip", "get ann", "sync", "checkpoint", "deeds"],
                    ["deeds 1", "ann none", "deeds 4"])

    def test_sync_and_checkpoint(self):
        for word in ("sync", "checkpoint"):
            self.expect(['put ann 3, "x"', word, 'put bob 4, "y"', "crash 0", "scan a z"],
                        ["deeds 1", 'ann 3, "x"', "end"])
        self.expect(['put ann 3, "x"', 'put bob 4, "y"', "crash 0", "scan a z"], ["deeds 0", "end"])
        self.expect(["sync", "sync", "checkpoint", "checkpoint"], [])

    def test_crash(self):
        puts = ['put ann 1, ""', 'put bob 2, ""', 'put carl 3, ""']
        rows = ['ann 1, ""', 'bob 2, ""', 'carl 3, ""']
        # Each put writes one sector; a deed survives if those before it do.
        for keep, many in ((0, 0), (1, 1), (2, 0), (3, 2), (4, 0), (5, 1), (6, 0), (7, 3), (8, 0), (11, 2), (15, 3),
                           (999999999999, 3), (999999999998, 0), (100000000001, 1), (137438953472, 0)):
            self.expect(puts + [f"crash {keep}", "scan a z"], [f"deeds {many}"] + rows[:many] + ["end"])
        self.expect(puts + ["sync", "crash 0", "crash 5", "deeds"], ["deeds 3", "deeds 3", "deeds 3"])
        self.expect(puts + ["sync", 'put eve 4, ""', "crash 1", "get eve"], ["deeds 4", 'eve 4, ""'])
        self.expect("crash 0", ["deeds 0"])

    def test_crash_with_many_pending_writes(self):
        puts = [f'put {a}{b} 1, ""' for a in "abcd" for b in "abcdefghij"]
        for keep, many in ((2 ** 39 - 1, 39), (2 ** 39 - 1 - 2 ** 20, 20), (2 ** 38 - 1, 38), (2 ** 38 + 2 ** 37 - 1, 37), (1, 1)):
            self.expect(puts + [f"crash {keep}"], [f"deeds {many}"], sectors=300)

    def test_lines_that_are_skipped(self):
        for text in ("", "\n", "\n\n\n", "#", "#\n", "# put ann", "#go\n\n#\n"):
            self.expect(text, [])
        self.expect("deeds\n", ["deeds 0"])
        self.expect("\n\ndeeds\n\n#x\ngo\n\n", ["deeds 0", "line 6 command"])
        self.expect("#\n \n#\n", ["line 2 command"])
        self.expect(" #", ["line 1 command"])
        self.expect(" # x", ["line 1 command"])
        self.expect("deeds #", ["line 1 command"])
        self.expect(" ", ["line 1 command"])
        self.expect("  ", ["line 1 command"])
        self.expect(" deeds", ["line 1 command"])
        self.expect("\r\n\tdeeds\ndeeds\r", ["line 1 command", "line 2 command", "line 3 command"])

    def test_the_rest_of_the_line(self):
        schema = FLAGS
        self.expect(['put ann 1, true, old, "  a,  b  "', "get ann", 'run  ann skip', 'run ann   n   =  2 ', "get ann",
                     'run ann note = "  x  "', "get ann", 'put ann  1, true, old, ""', 'put ann 1, true, old, "" ', "get ann"],
                    ['ann 1, true, old, "  a,  b  "', "line 3 key", 'ann 2, true, old, "  a,  b  "', 'ann 2, true, old, "  x  "',
                     "line 8 values", "line 9 values", 'ann 2, true, old, "  x  "'], schema)

    def test_a_log_that_gets_full(self):
        lines = []
        for number in range(100):
            lines.append(f'put ann {number % 10}, ""')
        self.expect(lines + ["deeds", "crash 0", "get ann"], ["deeds 100", "deeds 100", 'ann 9, ""'][:1] + ["deeds 98", 'ann 7, ""'])

    def test_each_script_has_a_disk_of_its_own(self):
        for _ in range(2):
            self.expect(['put ann 1, ""', "sync", "deeds"], ["deeds 1"])


class Reasons(Lines):
    GOOD = ('put ann 3, "x"', "sync")

    def refused(self, line, reason, schema=SMALL):
        """The line is refused, at any place, and changes nothing."""
        with self.subTest(line=line):
            printed = run_script(schema, 60, line)
            self.assertEqual(printed, [f"line 1 {reason}"])
            if schema == SMALL:
                self.expect(list(self.GOOD) + ["#", "", line, "", line, "deeds", "scan a z"],
                            [f"line 5 {reason}", f"line 7 {reason}", "deeds 1", 'ann 3, "x"', "end"])

    def test_command(self):
        for line in ("go", "Put ann 3", "PUT", "puts", "pu", " ", "put", "put ann", "drop", "run", "run ann", "get", "scan", "scan a",
                     "crash", "put ", "run ", "scan ", "syncs", "checkpoints", "get\tann", "deeds\t", "none", "end", "line 1 command",
                     "close", "exit", "sync 1", "checkpoint 0", "deeds 0", "deeds deeds", "open", "crashes 0", "scan\ta b"):
            self.refused(line, "command")
        for line in ("drop ann bob", "get ann bob", "scan a b c", "crash 0 0", "sync x", "checkpoint x", "deeds x", "drop ann x y"):
            self.refused(line, "command")

    def test_empty_words(self):
        for line, reason in (
            ("drop ", "key"), ("drop  ", "command"), ("drop  ann", "command"), ("drop ann ", "command"), ("drop ann  ", "command"),
            ("get ", "key"), ("get  ", "command"), ("get  ann", "command"), ("get ann ", "command"),
            ("put ", "command"), ("put  ", "key"), ("put   ", "key"), ('put  3, "x"', "key"), ('put  ann 3, "x"', "key"),
            ("put ann ", "values"), ("put ann  ", "values"), ('put ann  3, "x"', "values"), ('put ann 3, "x" ', "values"),
            ("run ", "command"), ("run  ", "key"), ("run  skip", "key"), ("run  ann skip", "key"), ("run ann ", "text"),
            ("run ann  ", "text"), ("sync ", "command"), ("checkpoint ", "command"), ("deeds ", "command"), ("deeds  ", "command"),
            ("crash ", "keep"), ("crash  ", "command"), ("crash  0", "command"), ("crash 0 ", "command"), ("crash 0  ", "command"),
            ("scan ", "command"), ("scan a", "command"), ("scan a b ", "command"), ("scan  a b", "command"), ("scan a  b", "command"),
            ("scan    ", "command"), (" get ann", "command"), (" ", "command"),
        ):
            self.refused(line, reason)
        self.expect(["scan a ", "scan  ", "scan  z", 'put b 1, ""', "scan  z"], ["end", "end", "end", 'b 1, ""', "end"])

    def test_key(self):
        for key in ("A", "Ann", "a1", "1", "abcdefghijklm", "a-b", "a.", '"a"', "a,", "\u00e9", "a\t", "#a", "-"):
            for rest in (' 3, "x"', " ", " x"):
                self.refused(f"put {key}{rest}", "key")
            for rest in (" n = 1", " x = 1", " ", " ?"):
                self.refused(f"run {key}{rest}", "key")
            self.refused(f"drop {key}", "key")
            self.refused(f"get {key}", "key")

    def test_values(self):
        for values in ("", "3", '3, "abcdef"', '10, "x"', '-0, "x"', '03, "x"', '3,"x"', '3, x', '3, "x', '3, "x"y', 'n = 3', '"x", 3',
                       '3, "x", 4', "3, 'x'", '3, "\u00e9"', '3, "\t"'):
            self.refused(f"put ann {values}", "values")
            self.refused(f"put bob {values}", "values")

    def test_text(self):
        for text in ("", " ", "n", "n =", "n = 1;", "n == 1", "n = n + 1", "N = 1", "if = 1", "skip skip", '"', "skip #", "# skip",
                     "n = 10000000000", "skip" + "; skip" * 400, "skip" + "; skip" * 200, 't = "\u00e9"', "3", '3, "x"'):
            self.refused(f"run ann {text}", "text")
            self.refused(f"run bob {text}", "text")

    def test_program(self):
        for text in ("n = (n + 1)", "x = 1", "n = t", "n = true", 't = "abcdef"', "t = 'word", "if n { skip } else { skip }", "n = 10",
                     "n = -1", "t = join(t, t)", "n = x"):
            self.refused(f"run ann {text}", "program")
            self.refused(f"run bob {text}", "program")

    def test_keep(self):
        for keep in ("00", "01", "-0", "-1", "+1", "1.0", "x", "1000000000000", "0" * 13, "9" * 13, "9" * 5000, "0x1", "1_0", "\u0661",
                     "\u00b2", "a", "-", "1,", "1e3", "\uff11"):
            self.refused(f"crash {keep}", "keep")
        self.expect(['put ann 3, "x"', "crash 01", "crash x", "get ann", "crash 0", "get ann"],
                    ["line 2 keep", "line 3 keep", 'ann 3, "x"', "deeds 0", "ann none"])

    def test_full(self):
        # A deed that is longer than the log, and behind it the store goes on.
        schema = (("n", ("int", 0, 9)), ("on", ("flag",)))
        self.expect(["put ann 3, true", f"run ann {LONG}", "get ann", "deeds", "run ann n = 4", f"run bob {LONG}", "get ann", "deeds"],
                    ["line 2 full", "ann 3, true", "deeds 1", "line 6 full", "ann 4, true", "deeds 2"], schema)
        # The program is not accepted before it is asked whether there is room.
        self.expect([f"run ann {LONG}; on = n", f"run ann {LONG}; on =", f"run Ann {LONG}"],
                    ["line 1 program", "line 2 text", "line 3 key"], schema)

    def test_full_checkpoints(self):
        values = ", ".join(['"' + "x" * 40 + '"'] * 8)
        lines = [f"put {key} {values}" for key in ("a", "b", "c", "d", "e", "f", "g", "h", "i", "j", "k", "l")]
        printed = run_script(WIDE, 60, "\n".join(lines + ["checkpoint", "deeds", "get l", "go", "sync"]))
        refused = [line for line in printed if line.endswith(" full")]
        self.assertGreater(len(refused), 2)
        performed = 12 - (len(refused) - 1)
        self.assertEqual(refused, [f"line {number} full" for number in range(performed + 1, 14)])
        self.assertEqual(printed[len(refused):], [f"deeds {performed}", "l none", "line 16 command"])

    def test_the_number_of_the_line(self):
        self.expect("go", ["line 1 command"])
        self.expect("\n# x\n\ngo\n#\nget A\n\n\nput a x\n", ["line 4 command", "line 6 key", "line 9 values"])
        self.expect("\n" * 99 + "go", ["line 100 command"])
        self.expect("go\ngo\ndeeds\ngo", ["line 1 command", "line 2 command", "deeds 0", "line 4 command"])

    def test_pairs_of_reasons(self):
        for line, reason in (
            # command and each other reason.
            ("drop A b", "command"), ("get A ", "command"), ("put A", "command"), ("run A", "command"), ("go A", "command"),
            ("crash x y", "command"), ("crash 00 ", "command"), ("puts ann x", "command"), ("runs ann ?", "command"),
            # key and values, text, program.
            ("put A x", "key"), ("put A ", "key"), ("run A ?", "key"), ("run A x = 1", "key"), ("run A n = 10", "key"),
            # text and program.
            ("run ann x = 1; ?", "text"), ("run ann n = 10;", "text"), ("run ann n = t +", "text"),
        ):
            self.refused(line, reason)

    def test_full_comes_last(self):
        # The log is full, and there is no room for a checkpoint: only what is possible otherwise is refused as full.
        values = ", ".join(['"' + "x" * 40 + '"'] * 8)
        lines = [f"put {key} {values}" for key in "abcdefghijkl"]
        lines += [f"drop {key}" for key in "zzzzzzzzzzzzzzzzzzzz"]
        printed = run_script(WIDE, 60, "\n".join(lines))
        self.assertEqual(printed[-1], f"line {len(lines)} full")
        more = [f"put l {values}", "put l x", f"put L {values}", "put l", "drop L", "drop l", "drop l m", 'run l a = "y"', "run l x = 1",
                "run l a =", "run L a =", "checkpoint", "checkpoint x", "sync", "get l", "scan m z"]
        reasons = ["full", "values", "key", "command", "key", "full", "command", "full", "program", "text", "key", "full", "command"]
        expected = [f"line {len(lines) + 1 + index} {reason}" for index, reason in enumerate(reasons)] + ["l none", "end"]
        self.assertEqual(run_script(WIDE, 60, "\n".join(lines + more)), printed + expected)


class Errors(unittest.TestCase):
    def test_at_the_beginning(self):
        for sectors in (0, -1):
            for schema in (SMALL, ()):
                self.assertRaises(DiskError, run_script, schema, sectors, "")
        for sectors in (1, 59):
            self.assertRaises(DiskError, run_script, SMALL, sectors, "deeds")
            self.assertRaises(BadSchema, run_script, (), sectors, "deeds")
        for schema in ((), None, [("n", ("int", 0, 9))], (("n", ("int", 9, 0)),)):
            self.assertRaises(BadSchema, run_script, schema, 60, "")
        self.assertEqual(run_script(SMALL, 60, ""), [])

    def test_behind_a_crash(self):
        # The checkpoint of the opening finds no room.
        values = ", ".join(['"' + "x" * 40 + '"'] * 8)
        lines = [f"put {key} {values}" for key in "abcdefghijkl"]
        self.assertTrue(run_script(WIDE, 60, "\n".join(lines))[-1].endswith(" full"))
        for tail in (["sync", "crash 0"], ["sync", "crash 0", "deeds"], ["crash 999999999999"]):
            self.assertRaises(DiskFull, run_script, WIDE, 60, "\n".join(lines + tail))
        # Without a crash, or without what was not synced, the script goes on.
        self.assertEqual(run_script(WIDE, 60, "\n".join(lines[:3] + ["crash 0", "scan a z"])), ["deeds 0", "end"])


class AtRandom(unittest.TestCase):
    def test_against_a_model(self):
        maker = random.Random(270)
        keys = ("a", "b", "ab", "zz", "q")
        for _ in range(60):
            records, safe, lines, printed = {}, {}, [], []
            deeds = safe_deeds = 0
            for _ in range(50):
                what = maker.random()
                key = maker.choice(keys)
                if what < 0.35:
                    record = (maker.randint(0, 9), maker.choice(("", "x", '"', "\\", "a, b")))
                    lines.append(f"put {key} {record_text(SMALL, record)}")
                    records[key] = record
                    deeds += 1
                elif what < 0.45:
                    lines.append(f"drop {key}")
                    records.pop(key, None)
                    deeds += 1
                elif what < 0.6:
                    lines.append(f"run {key} n = max(0, (n - 1)); t = cut(join(t, \"z\"), 5)")
                    if key in records:
                        records[key] = (max(0, records[key][0] - 1), (records[key][1] + "z")[:5])
                    deeds += 1
                elif what < 0.7:
                    lines.append(f"get {key}")
                    printed.append(f"{key} {record_text(SMALL, records[key])}" if key in records else f"{key} none")
                elif what < 0.8:
                    lines.append("scan aa zz")
                    printed += [f"{key} {record_text(SMALL, records[key])}" for key in sorted(records) if "aa" <= key < "zz"]
                    printed.append("end")
                elif what < 0.9:
                    lines.append(maker.choice(("sync", "checkpoint")))
                    safe, safe_deeds = dict(records), deeds
                else:
                    lines.append("crash 0")
                    records, deeds = dict(safe), safe_deeds
                    printed.append(f"deeds {deeds}")
            # So large that no log gets full between two syncs.
            self.assertEqual(run_script(SMALL, 1000, "\n".join(lines)), printed)


if __name__ == "__main__":
    unittest.main()
