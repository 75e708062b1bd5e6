"""Point 21: the default bindings, and the innermost node that matches a sequence."""

import itertools
import unittest

from keyfocus.bindings import Bindings
from keyfocus.commands import command_of
from keyfocus.keystrokes import keystroke
from keyfocus.matching import DEFAULTS, is_near, match_on

SEQUENCES = [sequence for length in (1, 2, 3) for sequence in itertools.product("AB", repeat=length)]


def keys_of(*rows):
    """Bindings, each told by a node, a text and a command."""
    keys = Bindings()
    for node, text, command in rows:
        keys.bind(node, tuple(text.split()), command)
    return keys


class DefaultsTest(unittest.TestCase):
    def test_each_default_binding_in_order(self):
        self.assertEqual([
            ("Tab", "focusNext"), ("Shift+Tab", "focusPrevious"), ("Right", "nextItem"), ("Down", "nextItem"),
            ("Left", "previousItem"), ("Up", "previousItem"), ("Home", "firstItem"), ("End", "lastItem"),
            ("Escape", "closeTopLayer"), ("Enter", "activate"), ("Space", "activate"),
        ], list(DEFAULTS.items()))
        self.assertIs(dict, type(DEFAULTS))

    def test_they_are_canonical_keystrokes_and_commands(self):
        for stroke, command in DEFAULTS.items():
            self.assertEqual(stroke, keystroke(stroke))
            self.assertEqual((command, ""), command_of(command))


class MatchOnTest(unittest.TestCase):
    def assert_match(self, expected, keys, strokes, path=("root", "list", "apple")):
        given = list(path)
        self.assertEqual(expected, match_on(keys, given, strokes))
        self.assertEqual(list(path), given)

    def test_on_the_innermost_node(self):
        keys = keys_of(("apple", "A B", "run it"))
        self.assert_match(("apple", "partial", ""), keys, ("A",))
        self.assert_match(("apple", "exact", "run it"), keys, ("A", "B"))
        self.assert_match(None, keys, ("B",))
        self.assert_match(None, keys, ("A", "A"))
        self.assert_match(None, keys, ("A", "B", "A"))

    def test_on_an_outer_node(self):
        for node in ("root", "list"):
            keys = keys_of((node, "A B", "run it"))
            self.assert_match((node, "partial", ""), keys, ("A",))
            self.assert_match((node, "exact", "run it"), keys, ("A", "B"))
            self.assert_match(None, keys, ("B",))

    def test_on_several_nodes(self):
        keys = keys_of(("root", "A", "run outer"), ("apple", "A", "run inner"), ("list", "A", "run mid"))
        self.assert_match(("apple", "exact", "run inner"), keys, ("A",))
        self.assert_match(("list", "exact", "run mid"), keys, ("A",), ("root", "list"))
        self.assert_match(("root", "exact", "run outer"), keys, ("A",), ("root",))
        self.assert_match(("root", "exact", "run outer"), keys, ("A",), ("apple", "list", "root"))

    def test_an_exact_match_further_out_than_a_partial_one(self):
        keys = keys_of(("root", "A", "run outer"), ("apple", "A B", "run inner"))
        self.assert_match(("apple", "partial", ""), keys, ("A",))
        self.assert_match(("apple", "exact", "run inner"), keys, ("A", "B"))

    def test_a_partial_match_further_out_than_an_exact_one(self):
        keys = keys_of(("root", "A B", "run outer"), ("apple", "A", "run inner"))
        self.assert_match(("apple", "exact", "run inner"), keys, ("A",))
        self.assert_match(("root", "exact", "run outer"), keys, ("A", "B"))

    def test_nodes_that_are_not_on_the_path(self):
        keys = keys_of(("pear", "A", "run it"), ("dialog", "A", "run it"))
        self.assert_match(None, keys, ("A",))
        self.assert_match(None, Bindings(), ("A",))

    def test_a_path_of_one_name_and_one_of_none(self):
        keys = keys_of(("root", "A B", "run it"))
        self.assert_match(("root", "exact", "run it"), keys, ("A", "B"), ("root",))
        self.assert_match(("root", "partial", ""), keys, ("A",), ("root",))
        self.assert_match(None, keys, ("B",), ("root",))
        self.assert_match(None, keys, ("A",), ("list",))
        self.assert_match(None, keys, ("A",), ())

    def test_default_bindings_are_not_matched(self):
        for stroke in DEFAULTS:
            self.assert_match(None, Bindings(), (stroke,))
        keys = keys_of(("list", "Tab", "run it"))
        self.assert_match(("list", "exact", "run it"), keys, ("Tab",))


class IsNearTest(unittest.TestCase):
    def test_the_sequence_itself(self):
        keys = keys_of(("a", "A B", "run it"))
        self.assertIs(True, is_near(keys, "a", ("A", "B")))
        self.assertIs(True, is_near(keys, "a", ("A",)))
        self.assertIs(False, is_near(keys, "a", ("B",)))
        self.assertIs(False, is_near(keys, "b", ("A", "B")))

    def test_a_prefix_of_the_sequence(self):
        keys = keys_of(("a", "A", "run it"), ("a", "B B", "run it"))
        for strokes, near in ((("A", "B"), True), (("A", "B", "C"), True), (("B", "A"), True), (("B", "B", "A"), True),
                              (("C",), False), (("C", "A"), False), (("C", "B", "B"), False)):
            self.assertIs(near, is_near(keys, "a", strokes), strokes)

    def test_every_pair_of_sequences(self):
        for bound in SEQUENCES:
            keys = Bindings()
            keys.bind("a", bound, "run it")
            for strokes in SEQUENCES:
                self.assertIs(bound[0] == strokes[0], is_near(keys, "a", strokes))
                self.assertIs(False, is_near(keys, "b", strokes))

    def test_no_bindings(self):
        for strokes in SEQUENCES:
            self.assertIs(False, is_near(Bindings(), "a", strokes))


if __name__ == "__main__":
    unittest.main()
