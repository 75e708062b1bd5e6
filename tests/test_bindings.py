"""Points 20 and 21, and 3 and 4 for bindings: binding, taking back, and what a node matches."""

import itertools
import unittest

from keyfocus.bindings import Bindings
from keyfocus.errors import Refused

CONFLICT = "conflicting key sequence"
SEQUENCES = [sequence for length in (1, 2, 3) for sequence in itertools.product("ABC", repeat=length)]


def told(keys, nodes=("a", "b", "c", "none")):
    """All that bindings tell of some nodes."""
    return keys.count(), [
        (node, keys.of(node), [(keys.is_bound(node, strokes), keys.match(node, strokes)) for strokes in SEQUENCES])
        for node in nodes
    ]


def many(number):
    """Bindings of so many sequences, 13 to a node."""
    keys = Bindings()
    for at in range(number):
        keys.bind(f"n{at // 13}", (f"F{at % 13}",), f"run r{at}")
    return keys


class BindingsTest(unittest.TestCase):
    def assert_refused(self, what, keys, node, strokes):
        before = told(keys)
        with self.assertRaises(Refused) as caught:
            keys.bind(node, strokes, "activate")
        self.assertEqual(what, caught.exception.what, (node, strokes))
        self.assertEqual(before, told(keys))


class BindTest(BindingsTest):
    def test_no_bindings(self):
        keys = Bindings()
        self.assertEqual(0, keys.count())
        self.assertEqual([], keys.of("root"))
        self.assertIs(False, keys.is_bound("root", ("A",)))
        self.assertIsNone(keys.match("root", ("A",)))
        self.assertIs(False, keys.unbind("root", ("A",)))
        self.assertIsNone(keys.drop(["root"]))
        self.assertEqual(0, keys.count())

    def test_one_binding(self):
        keys = Bindings()
        self.assertIsNone(keys.bind("a", ("Ctrl+K", "Ctrl+S"), "run save"))
        self.assertEqual(1, keys.count())
        self.assertEqual([("Ctrl+K Ctrl+S", "run save")], keys.of("a"))
        self.assertEqual([], keys.of("b"))
        self.assertIs(True, keys.is_bound("a", ("Ctrl+K", "Ctrl+S")))
        for node, strokes in (("b", ("Ctrl+K", "Ctrl+S")), ("a", ("Ctrl+K",)), ("a", ("Ctrl+S",)),
                              ("a", ("Ctrl+K", "Ctrl+S", "A")), ("a", ("Ctrl+S", "Ctrl+K"))):
            self.assertIs(False, keys.is_bound(node, strokes))

    def test_objects_do_not_share_bindings(self):
        one, other = Bindings(), Bindings()
        one.bind("a", ("A",), "activate")
        self.assertEqual((1, 0), (one.count(), other.count()))
        self.assertEqual([], other.of("a"))

    def test_the_order_in_which_they_were_bound(self):
        keys = Bindings()
        for node, strokes, command in (("a", ("F2",), "activate"), ("b", ("F2",), "run x"),
                                       ("a", ("F1", "B"), 'announce "A"'), ("a", ("F1", "A", "C"), "focus b"),
                                       ("b", ("A",), "activate"), ("a", ("Tab",), "run a")):
            keys.bind(node, strokes, command)
        self.assertEqual([("F2", "activate"), ("F1 B", 'announce "A"'), ("F1 A C", "focus b"), ("Tab", "run a")],
                         keys.of("a"))
        self.assertEqual([("F2", "run x"), ("A", "activate")], keys.of("b"))
        keys.unbind("a", ("F2",))
        keys.bind("a", ("F2",), "run new")
        self.assertEqual([("F1 B", 'announce "A"'), ("F1 A C", "focus b"), ("Tab", "run a"), ("F2", "run new")],
                         keys.of("a"))
        for pair in keys.of("a"):
            self.assertIs(tuple, type(pair))

    def test_lists_that_were_returned_and_are_then_changed(self):
        keys = Bindings()
        keys.bind("a", ("A",), "activate")
        keys.bind("a", ("B",), "run b")
        before = told(keys)
        for node in ("a", "none"):
            keys.of(node).reverse()
            keys.of(node).clear()
            keys.of(node).append(("C", "activate"))
            self.assertEqual(before, told(keys))
        listed = keys.of("a")
        keys.unbind("a", ("A",))
        self.assertEqual([("A", "activate"), ("B", "run b")], listed)

    def test_every_pair_of_sequences_at_one_node(self):
        for one in SEQUENCES:
            for two in SEQUENCES:
                keys = Bindings()
                keys.bind("a", one, "run one")
                shorter = min(len(one), len(two))
                if one[:shorter] == two[:shorter]:
                    self.assert_refused(CONFLICT, keys, "a", two)
                else:
                    keys.bind("a", two, "run two")
                    self.assertEqual([(" ".join(one), "run one"), (" ".join(two), "run two")], keys.of("a"))

    def test_conflicts(self):
        keys = Bindings()
        keys.bind("a", ("F1",), "activate")
        keys.bind("a", ("A", "B"), "activate")
        keys.bind("a", ("C", "B", "A"), "activate")
        for strokes in (("A", "B"), ("A",), ("A", "B", "C"), ("C",), ("C", "B"), ("C", "B", "A"), ("F1",),
                        ("F1", "A"), ("F1", "F1", "F1")):
            self.assert_refused(CONFLICT, keys, "a", strokes)
        for strokes in (("B",), ("A", "C"), ("C", "C"), ("C", "B", "B"), ("F11",), ("Ctrl+A",)):
            keys.bind("a", strokes, "activate")
        self.assertEqual(9, keys.count())

    def test_the_same_sequence_at_another_node(self):
        keys = Bindings()
        for node in ("a", "b", "c"):
            keys.bind(node, ("A", "B"), f"run {node}")
        keys.bind("root", ("A",), "run root")
        keys.bind("other", ("A", "B", "C"), "run other")
        self.assertEqual(5, keys.count())
        self.assertEqual([("A B", "run b")], keys.of("b"))

    def test_the_40th_and_the_41st_key_sequence(self):
        keys = many(39)
        self.assertEqual(39, keys.count())
        keys.bind("a", ("A",), "activate")
        self.assertEqual(40, keys.count())
        for node in ("a", "b", "n0"):
            self.assert_refused("too many bindings", keys, node, ("B",))
        keys.unbind("n1", ("F5",))
        keys.bind("b", ("B",), "activate")
        self.assert_refused("too many bindings", keys, "b", ("C",))

    def test_40_sequences_at_one_node(self):
        keys = Bindings()
        for sequence in itertools.islice(itertools.product("ABCDEFG", repeat=2), 40):
            keys.bind("a", sequence, "activate")
        self.assertEqual(40, len(keys.of("a")))
        self.assert_refused("too many bindings", keys, "a", ("G", "G"))
        self.assert_refused(CONFLICT, keys, "a", ("A", "B"))

    def test_both_errors_at_once(self):
        keys = many(40)
        keys.unbind("n0", ("F0",))
        keys.bind("a", ("A", "B"), "activate")
        for strokes in (("A",), ("A", "B"), ("A", "B", "C")):
            self.assert_refused(CONFLICT, keys, "a", strokes)
            self.assert_refused("too many bindings", keys, "b", strokes)


class TakeBackTest(BindingsTest):
    def test_unbind(self):
        keys = Bindings()
        keys.bind("a", ("A", "B"), "activate")
        keys.bind("a", ("B",), "activate")
        keys.bind("b", ("A", "B"), "activate")
        self.assertIs(True, keys.unbind("a", ("A", "B")))
        self.assertEqual([("B", "activate")], keys.of("a"))
        self.assertEqual([("A B", "activate")], keys.of("b"))
        self.assertEqual(2, keys.count())
        self.assertIs(False, keys.unbind("a", ("A", "B")))
        self.assertIs(True, keys.unbind("a", ("B",)))
        self.assertIs(True, keys.unbind("b", ("A", "B")))
        self.assertEqual((0, []), (keys.count(), keys.of("a")))
        keys.bind("a", ("A",), "activate")
        self.assertEqual(1, keys.count())

    def test_what_is_not_bound(self):
        keys = Bindings()
        keys.bind("a", ("A", "B"), "activate")
        before = told(keys)
        for node, strokes in (("a", ("A",)), ("a", ("B",)), ("a", ("A", "B", "C")), ("a", ("B", "A")),
                              ("b", ("A", "B")), ("none", ("A",))):
            self.assertIs(False, keys.unbind(node, strokes))
            self.assertEqual(before, told(keys))

    def test_drop(self):
        for names in ([], ["a"], ["b"], ["a", "c"], ["c", "b", "a"], ["none"], ["none", "b", "x"], ["a", "a"]):
            keys = Bindings()
            for node in ("a", "b", "c"):
                keys.bind(node, ("A", "B"), "activate")
                keys.bind(node, ("C",), "activate")
            given = list(names)
            self.assertIsNone(keys.drop(given))
            self.assertEqual(names, given)
            left = [node for node in ("a", "b", "c") if node not in names]
            self.assertEqual(2 * len(left), keys.count())
            for node in ("a", "b", "c"):
                listed = [("A B", "activate"), ("C", "activate")] if node in left else []
                self.assertEqual(listed, keys.of(node))
                self.assertIs(node in left, keys.is_bound(node, ("C",)))

    def test_a_node_can_be_bound_again_after_a_drop(self):
        keys = many(40)
        keys.drop(["n0"])
        self.assertEqual(27, keys.count())
        keys.bind("n0", ("F0",), "run again")
        self.assertEqual([("F0", "run again")], keys.of("n0"))


class MatchTest(BindingsTest):
    def test_exact_partial_and_no_match(self):
        keys = Bindings()
        keys.bind("a", ("A", "B"), "run ab")
        keys.bind("a", ("C",), "run c")
        keys.bind("a", ("B", "B", "B"), "run bbb")
        for strokes, found in (
            (("A",), ("partial", "")), (("A", "B"), ("exact", "run ab")), (("A", "B", "C"), None),
            (("A", "C"), None), (("C",), ("exact", "run c")), (("C", "C"), None),
            (("B",), ("partial", "")), (("B", "B"), ("partial", "")), (("B", "B", "B"), ("exact", "run bbb")),
            (("B", "A"), None), (("D",), None),
        ):
            self.assertEqual(found, keys.match("a", strokes), strokes)
            self.assertIsNone(keys.match("b", strokes))

    def test_every_pair_of_sequences(self):
        for bound in SEQUENCES:
            keys = Bindings()
            keys.bind("a", bound, "run it")
            for strokes in SEQUENCES:
                found = None
                if strokes == bound:
                    found = ("exact", "run it")
                elif strokes == bound[:len(strokes)]:
                    found = ("partial", "")
                self.assertEqual(found, keys.match("a", strokes))

    def test_after_a_binding_was_taken_back(self):
        keys = Bindings()
        keys.bind("a", ("A", "B"), "run ab")
        keys.bind("a", ("A", "C"), "run ac")
        keys.unbind("a", ("A", "B"))
        self.assertEqual(("partial", ""), keys.match("a", ("A",)))
        self.assertIsNone(keys.match("a", ("A", "B")))
        keys.unbind("a", ("A", "C"))
        self.assertIsNone(keys.match("a", ("A",)))


if __name__ == "__main__":
    unittest.main()
