"""Tests of the tree: points 211 and 220 to 224."""

import copy
import random
import unittest

from sinktree.errors import BadKey
from sinktree.messages import apply
from sinktree.tree import Tree
from tests.rules import DROP, LONG, MORE, TURN, WORDS, Broken, TreeMaker, check_rules, put, result

NO_KEYS = (
    None, True, False, 0, 1, 1.5, b"a", "", "A", "a b", " a", "a ", "a1", "abcdefghijklm", "\u00e9", (), ("a",), [], ["a"],
    {}, {"a": 1}, object(), str,
)
ENDS = ("", " ", "a", "abc", "abca", "b", "b ", "bz", "c\u00e9", "ccc", "ccca", "jjj", "jjjj", "zzzzzzzzzzzz", "~", "{")


class Pair:
    """A tree beside a plain dict of records; after each call the rules are checked."""

    def __init__(self, test, tree, records):
        self.test = test
        self.tree = tree
        self.records = records
        self.heights = [tree.height()]
        self.check()

    def add(self, key, message):
        kept = copy.deepcopy(message)
        self.test.assertIsNone(self.tree.add(key, message))
        self.test.assertEqual(message, kept)
        record = apply(message, self.records.get(key))
        if record is None:
            self.records.pop(key, None)
        else:
            self.records[key] = record
        self.check()
        self.test.assertEqual(repr(self.tree.get(key)), repr(record))

    def check(self):
        height = check_rules(self.tree.root(), self.tree.nodes())
        self.test.assertEqual(self.tree.height(), height)
        if height != self.heights[-1]:
            self.heights.append(height)

    def compare(self):
        rows = sorted(self.records.items())
        self.test.assertEqual(repr(self.tree.scan("", "~")), repr(rows))
        for key, record in rows:
            self.test.assertEqual(repr(self.tree.get(key)), repr(record))


class New(unittest.TestCase):
    def test_the_new_tree(self):
        tree = Tree()
        self.assertEqual(tree.nodes(), {0: ("leaf", ())})
        self.assertEqual(tree.root(), 0)
        self.assertEqual(tree.height(), 0)
        self.assertIsNone(tree.get("ann"))
        self.assertEqual(tree.scan("", "zzz"), [])

    def test_trees_stay_apart(self):
        first, second = Tree(), Tree()
        first.add("ann", put(1))
        self.assertEqual(second.nodes(), {0: ("leaf", ())})
        self.assertEqual(Tree().nodes(), {0: ("leaf", ())})

    def test_a_leaf(self):
        tree = Tree()
        for key in ("dora", "ann", "carl", "bob"):
            tree.add(key, put(3))
        rows = tuple((key, (3, False)) for key in ("ann", "bob", "carl", "dora"))
        self.assertEqual(tree.nodes()[tree.root()], ("leaf", rows))
        self.assertEqual((len(tree.nodes()), tree.height()), (1, 0))
        self.assertEqual(tree.scan("", "zzz"), list(rows))

    def test_a_branch(self):
        tree = Tree()
        for key in ("dora", "ann", "eve", "carl", "bob"):
            tree.add(key, put(3))
        self.assertEqual(tree.height(), 1)
        self.assertEqual(tree.nodes()[tree.root()][0], "branch")
        self.assertEqual(check_rules(tree.root(), tree.nodes()), 1)


class Keys(unittest.TestCase):
    def grown(self):
        tree = Tree()
        for word in WORDS[:60]:
            tree.add(word, put(3))
        return tree

    def test_add_of_what_is_no_key(self):
        for tree in (Tree(), self.grown()):
            before = (tree.root(), tree.nodes(), tree.scan("", "~"))
            for key in NO_KEYS:
                for message in (put(1), DROP, MORE):
                    with self.assertRaises(BadKey):
                        tree.add(key, message)
            self.assertEqual((tree.root(), tree.nodes(), tree.scan("", "~")), before)

    def test_get_of_what_is_no_key(self):
        for tree in (Tree(), self.grown()):
            for key in NO_KEYS:
                self.assertIsNone(tree.get(key))

    def test_keys_of_all_lengths(self):
        tree = Tree()
        keys = ["abcdefghijkl"[:size] for size in range(1, 13)] + ["z" * size for size in range(1, 13)]
        for number, key in enumerate(keys):
            tree.add(key, put(number))
            check_rules(tree.root(), tree.nodes())
        for number, key in enumerate(keys):
            self.assertEqual(tree.get(key), (number, False))


class Rows(unittest.TestCase):
    """Long rows of calls, with the rules after each of them."""

    def orders(self, many):
        words = WORDS[::1000 // many][:many]
        mixed = list(words)
        random.Random(220).shuffle(mixed)
        return {"ascending": list(words), "descending": list(reversed(words)), "mixed": mixed}

    def test_growing_and_shrinking(self):
        for name, words in self.orders(200).items():
            with self.subTest(order=name):
                pair = Pair(self, Tree(), {})
                for number, word in enumerate(words):
                    pair.add(word, put(number))
                    if number % 20 == 0:
                        pair.compare()
                pair.compare()
                self.assertGreaterEqual(max(pair.heights), 3)
                self.assertEqual(len(pair.records), 200)
                # The last drops may wait above the leaves until others come.
                for number, word in enumerate(words + words + words):
                    pair.add(word, DROP)
                    if number % 20 == 0:
                        pair.compare()
                pair.compare()
                self.assertEqual(pair.tree.scan("", "~"), [])
                self.assertEqual((pair.heights[-1], len(pair.tree.nodes())), (0, 1))
                self.assertEqual(pair.tree.nodes()[pair.tree.root()], ("leaf", ()))
                pair.add("ann", put(1))
                pair.compare()

    def test_shrinking_in_another_order(self):
        orders = self.orders(120)
        for name, words in orders.items():
            for other, drops in orders.items():
                with self.subTest(order=name, drops=other):
                    pair = Pair(self, Tree(), {})
                    for word in words:
                        pair.add(word, put(5))
                    for word in drops + drops:
                        pair.add(word, DROP)
                    pair.compare()
                    self.assertEqual(pair.records, {})

    def test_mixed_calls(self):
        for seed, many in ((1, 5), (2, 12), (3, 60), (4, 300), (5, 1000)):
            maker = random.Random(seed)
            words = maker.sample(WORDS, many)
            pair = Pair(self, Tree(), {})
            for step in range(700):
                if step % 140 == 0:
                    puts = maker.choice((0.2, 0.5, 0.8))
                what = maker.random()
                message = DROP
                if what < puts:
                    message = put(maker.randint(0, 9), maker.random() < 0.5)
                elif what < puts + (1 - puts) / 2:
                    message = maker.choice((MORE, TURN, LONG))
                pair.add(maker.choice(words), message)
                if step % 50 == 0:
                    pair.compare()
            pair.compare()

    def test_drops_of_keys_that_are_not_there(self):
        pair = Pair(self, Tree(), {})
        for word in WORDS[:30]:
            pair.add(word, DROP)
        self.assertEqual(pair.tree.nodes(), {0: ("leaf", ())})
        for word in WORDS[:200:2]:
            pair.add(word, put(1))
        for word in WORDS[1:200:2]:
            pair.add(word, DROP)
        pair.compare()
        self.assertEqual(len(pair.records), 100)

    def test_runs_on_keys_that_are_not_there(self):
        for message in (MORE, LONG):
            pair = Pair(self, Tree(), {})
            for word in WORDS[:30]:
                pair.add(word, message)
            self.assertEqual(pair.tree.scan("", "~"), [])
            for word in WORDS[:200:2]:
                pair.add(word, put(1))
            for word in WORDS[1:200:2]:
                pair.add(word, message)
            for word in WORDS[:200:3]:
                pair.add(word, message)
            pair.compare()
            self.assertEqual(len(pair.records), 100)

    def test_messages_that_cannot_be_combined(self):
        pair = Pair(self, Tree(), {})
        for word in WORDS[:100]:
            pair.add(word, put(1))
        for word in (WORDS[0], WORDS[37], WORDS[99], "zzz"):
            for _ in range(30):
                pair.add(word, LONG)
            pair.compare()
        for number in range(60):
            pair.add(WORDS[37], (LONG, TURN, MORE)[number % 3])
        pair.compare()
        pair.add(WORDS[37], LONG)
        pair.add(WORDS[37], LONG)
        pair.add(WORDS[37], DROP)
        pair.add(WORDS[37], LONG)
        self.assertIsNone(pair.tree.get(WORDS[37]))
        pair.compare()

    def test_the_order_of_messages_for_one_key(self):
        pair = Pair(self, Tree(), {})
        for word in WORDS[:64]:
            pair.add(word, put(9))
        for number in range(40):
            pair.add(WORDS[20], put(number))
            pair.add(WORDS[20], MORE)
            pair.add(WORDS[number], LONG)
            pair.add(WORDS[20], LONG)
            pair.add(WORDS[63 - number], DROP)
        pair.compare()


class Scan(unittest.TestCase):
    def test_ends(self):
        for many in (0, 3, 40, 400):
            tree = Tree()
            records = {}
            maker = random.Random(many)
            for number in range(many):
                key = maker.choice(WORDS)
                message = maker.choice((put(number), put(number), MORE, LONG, DROP))
                tree.add(key, message)
                records[key] = apply(message, records.get(key))
            before = (tree.root(), tree.nodes())
            for low in ENDS:
                for high in ENDS:
                    rows = [(key, records[key]) for key in sorted(records) if low <= key < high and records[key]]
                    found = tree.scan(low, high)
                    self.assertIs(type(found), list)
                    self.assertEqual(found, rows)
            self.assertEqual((tree.root(), tree.nodes()), before)

    def test_one_key(self):
        tree = Tree()
        tree.add("ann", put(1))
        row = [("ann", (1, False))]
        for low, high, rows in (
            ("ann", "anna", row), ("ann", "ann", []), ("anna", "ann", []), ("", "ann", []), ("", "ann ", row),
            ("ann ", "b", []), ("an", "b", row), ("b", "a", []), ("", "", []), ("", "b", row), ("z", "a", []),
        ):
            with self.subTest(low=low, high=high):
                self.assertEqual(tree.scan(low, high), rows)

    def test_waiting_puts_and_drops(self):
        tree = Tree()
        for word in WORDS[:100:2]:
            tree.add(word, put(1))
        tree.add(WORDS[51], put(2))
        tree.add(WORDS[50], DROP)
        tree.add(WORDS[49], MORE)
        keys = [key for key, _ in tree.scan("", "~")]
        self.assertEqual(keys, sorted(set(WORDS[:100:2] + (WORDS[51],)) - {WORDS[50]}))

    def test_the_lists_are_new(self):
        tree = Tree()
        tree.add("ann", put(1))
        tree.scan("", "z").append("spoilt")
        tree.scan("", "z").clear()
        self.assertEqual(tree.scan("", "z"), [("ann", (1, False))])


class Nodes(unittest.TestCase):
    def test_the_dict_may_be_changed(self):
        tree = Tree()
        for word in WORDS[:50]:
            tree.add(word, put(1))
        kept = tree.nodes()
        spoilt = tree.nodes()
        self.assertIsNot(kept, spoilt)
        for ident in list(spoilt):
            spoilt[ident] = ("leaf", ())
        spoilt[-1] = None
        self.assertEqual(tree.nodes(), kept)
        tree.nodes().clear()
        self.assertEqual(tree.nodes(), kept)
        self.assertEqual(len(tree.scan("", "z")), 50)
        # What was returned does not go on with the tree either.
        before = dict(kept)
        for word in WORDS[50:90]:
            tree.add(word, put(1))
        self.assertEqual(kept, before)

    def test_reads_change_nothing(self):
        tree = Tree()
        for number, word in enumerate(WORDS[:90]):
            tree.add(word, put(number))
        for word in WORDS[:90:3]:
            tree.add(word, LONG)
        before = (tree.root(), tree.nodes(), tree.height())
        for word in WORDS[:100]:
            tree.get(word)
        tree.scan("", "~")
        tree.scan("abc", "abd")
        tree.root()
        self.assertEqual((tree.root(), tree.nodes(), tree.height()), before)

    def test_height_counts_branches(self):
        leaf = ("leaf", (("a", (1,)), ("b", (2,))))
        other = ("leaf", (("c", (1,)), ("d", (2,))))
        self.assertEqual(Tree.restored(3, {3: leaf}).height(), 0)
        self.assertEqual(Tree.restored(5, {3: leaf, 4: other, 5: ("branch", ("c",), (3, 4), ())}).height(), 1)
        for height in range(4):
            maker = TreeMaker(height, height, 0.1)
            self.assertEqual(Tree.restored(maker.root, maker.nodes).height(), height)


class Restored(unittest.TestCase):
    def restored(self, maker):
        """Return a pair of a restored tree and its records."""
        check_rules(maker.root, maker.nodes)
        tree = Tree.restored(maker.root, maker.nodes)
        self.assertIs(type(tree), Tree)
        self.assertEqual((tree.root(), tree.nodes()), (maker.root, maker.nodes))
        records = {key: result(maker.root, maker.nodes, key) for key in maker.keys}
        return Pair(self, tree, {key: record for key, record in records.items() if record is not None})

    def test_reads(self):
        for seed in range(60):
            maker = TreeMaker(seed, seed % 4, (0.1, 0.5, 0.9)[seed % 3])
            pair = self.restored(maker)
            pair.compare()
            for low in ENDS:
                for high in ENDS[::3]:
                    rows = [row for row in sorted(pair.records.items()) if low <= row[0] < high]
                    self.assertEqual(pair.tree.scan(low, high), rows)

    def test_trees_that_go_on(self):
        for seed in range(60):
            for drops in (0.1, 0.6, 1):
                maker = TreeMaker(seed, seed % 4, drops)
                pair = self.restored(maker)
                kept = copy.deepcopy(maker.nodes)
                for _ in range(25):
                    pair.add(maker.random.choice(maker.keys), maker.message())
                pair.compare()
                self.assertEqual(maker.nodes, kept)

    def test_growing_and_shrinking(self):
        for seed in range(6):
            maker = TreeMaker(seed, 3, 0.5)
            pair = self.restored(maker)
            for word in WORDS[::5]:
                pair.add(word, put(1))
            pair.compare()
            for word in WORDS + WORDS:
                if word in maker.keys or word in WORDS[::5]:
                    pair.add(word, DROP)
            pair.compare()
            self.assertEqual((pair.records, pair.heights[-1]), ({}, 0))

    def test_ids(self):
        leaf = ("leaf", (("a", (1, True)), ("b", (2, True))))
        other = ("leaf", (("c", (1, True)), ("d", (2, True))))
        for first, second, root in ((0, 1, 2), (2, 1, 0), (7, 0, 3), (10 ** 20 - 1, 10 ** 9, 0), (1, 10 ** 20 - 1, 5)):
            nodes = {root: ("branch", ("c",), (first, second), ()), second: other, first: leaf}
            pair = Pair(self, Tree.restored(root, nodes), {
                "a": (1, True), "b": (2, True), "c": (1, True), "d": (2, True),
            })
            for word in WORDS[:100]:
                pair.add(word, put(3))
            pair.compare()
            # The text of an id has at most 20 digits.
            self.assertLess(max(pair.tree.nodes()), 10 ** 20)
        for ident in (0, 1, 99, 10 ** 20 - 1):
            pair = Pair(self, Tree.restored(ident, {ident: ("leaf", ())}), {})
            for word in WORDS[:60]:
                pair.add(word, put(3))
            pair.compare()

    def test_the_dict_may_be_changed(self):
        for change in ("clear", "replace"):
            maker = TreeMaker(7, 2, 0.2)
            nodes = dict(maker.nodes)
            pair = self.restored(maker)
            if change == "clear":
                maker.nodes.clear()
            else:
                for ident in list(maker.nodes):
                    maker.nodes[ident] = ("leaf", ())
            self.assertEqual(pair.tree.nodes(), nodes)
            pair.compare()
            for word in WORDS[:50]:
                pair.add(word, put(1))
            pair.compare()

    def test_two_trees_of_one_dict(self):
        maker = TreeMaker(8, 2, 0.2)
        first, second = self.restored(maker), self.restored(maker)
        for word in WORDS[:50]:
            first.add(word, put(1))
            second.add(word, DROP)
        first.compare()
        second.compare()

    def test_a_tree_taken_over(self):
        tree = Tree()
        for word in WORDS[:150]:
            tree.add(word, put(4))
        other = Tree.restored(tree.root(), tree.nodes())
        self.assertEqual((other.root(), other.nodes(), other.height()), (tree.root(), tree.nodes(), tree.height()))
        self.assertEqual(other.scan("", "~"), tree.scan("", "~"))


class Rules(unittest.TestCase):
    """The rules of these tests are not empty themselves."""

    def test_broken_trees(self):
        def leaf(*keys):
            return ("leaf", tuple((key, (1,)) for key in keys))

        ab, cd, ef = leaf("a", "b"), leaf("c", "d"), leaf("e", "f")
        self.assertEqual(check_rules(2, {0: ab, 1: cd, 2: ("branch", ("c",), (0, 1), ())}), 1)
        seven = (("a", (LONG,) * 3), ("b", (LONG,) * 4))
        for root, nodes in (
            (1, {0: ab}), (0, {0: ab, 1: cd}), (0, {0: leaf("a", "b", "c", "d", "e")}), (0, {0: leaf("b", "a")}),
            (2, {0: leaf("a"), 1: cd, 2: ("branch", ("c",), (0, 1), ())}),
            (2, {0: ab, 1: cd, 2: ("branch", ("d",), (0, 1), ())}),
            (2, {0: ab, 1: cd, 2: ("branch", ("b",), (0, 1), ())}),
            (2, {0: ab, 2: ("branch", ("b",), (0, 0), ())}),
            (2, {0: ab, 2: ("branch", (), (0,), ())}),
            (2, {0: ab, 1: cd, 2: ("branch", ("c",), (0, 1), seven)}),
            (2, {0: ab, 1: cd, 2: ("branch", ("c",), (0, 1), (("a", ()),))}),
            (2, {0: ab, 1: cd, 2: ("branch", ("c",), (0, 1), (("b", (LONG,)), ("a", (LONG,))))}),
            (4, {0: ab, 1: cd, 2: ("branch", ("c",), (0, 1), ()), 3: ef, 4: ("branch", ("e",), (2, 3), ())}),
        ):
            with self.assertRaises(Broken):
                check_rules(root, nodes)


if __name__ == "__main__":
    unittest.main()
