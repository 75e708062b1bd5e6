"""Points 20 to 22: bindings at a manager, and what keystrokes do."""

import itertools
import unittest

from managers import ManagerCase

SAMPLE = (
    '  item ok "OK"',
    '  circular list "Fruits"',
    '    item apple "Apple"',
    '    container box ""',
    '      item pear "Pear"',
    '  layer pop ""',
    '    item yes ""',
    '    item no ""',
)
UNMATCHED = ("unmatched", "", "", False)


class KeysCase(ManagerCase):
    def setUp(self):
        self.manager = self.manager_of(*SAMPLE)
        self.manager.focus("pear")
        self.bind, self.press = self.manager.bind, self.manager.press

    def assert_pressed(self, text, *expected):
        self.assertEqual(expected, self.press(text), text)

    def assert_triggered(self, text, node, command, executed=True):
        self.assert_pressed(text, "triggered", node, command, executed)
        self.assertEqual("", self.manager.pending())

    def assert_pending(self, text, node, pending):
        self.assert_pressed(text, "pending", node, "", False)
        self.assertEqual(pending, self.manager.pending())

    def assert_unmatched(self, text):
        self.assert_pressed(text, *UNMATCHED)
        self.assertEqual("", self.manager.pending())


class BindTest(KeysCase):
    def test_bindings_in_their_order(self):
        self.assertIsNone(self.bind("list", "ctrl+b", "run x"))
        self.assertIsNone(self.bind("list", " a  shift+ALT+f1 tab ", 'announce "a \\"b\\""'))
        self.bind("ok", "b", "focusNext")
        self.assertEqual([("Ctrl+B", "run x"), ("A Alt+Shift+F1 Tab", 'announce "a \\"b\\""')],
                         self.manager.bindings("list"))
        self.assertEqual([("B", "focusNext")], self.manager.bindings("ok"))
        self.assertEqual([], self.manager.bindings("root"))
        self.assert_refused("unknown node", self.manager.bindings, "nobody")

    def test_a_binding_is_taken_back(self):
        self.bind("list", "ctrl+b a", "run x")
        self.assertIs(False, self.manager.unbind("list", "ctrl+b"))
        self.assertIs(False, self.manager.unbind("ok", "ctrl+b a"))
        self.assertIs(True, self.manager.unbind("list", " CTRL+B   A"))
        self.assertIs(False, self.manager.unbind("list", "ctrl+b a"))
        self.assertEqual([], self.manager.bindings("list"))
        self.bind("list", "ctrl+b", "run y")
        self.assertEqual([("Ctrl+B", "run y")], self.manager.bindings("list"))

    def test_errors_of_bind_alone(self):
        self.bind("list", "a b", "run x")
        for sequence in ("", " ", "a b c d", "ctrl", "a+b", "+", "ctrl+ctrl+a", "a  b  c  d", "none"):
            self.assert_bad_keys("invalid key sequence", self.bind, "list", sequence, "run x")
        for command in ("", "run", "run  x", "focusnext", "announce x", "close", "focus X", "activate "):
            self.assert_refused("no command", self.bind, "list", "c", command)
        self.assert_refused("unknown node", self.bind, "nobody", "c", "run x")
        for sequence in ("a", "A B", "a b c"):
            self.assert_refused("conflicting key sequence", self.bind, "list", sequence, "run y")
        self.assertEqual([("A B", "run x")], self.manager.bindings("list"))

    def test_the_40th_and_the_41st_binding(self):
        names = ("root", "ok", "list", "pear")
        for number, (node, one, two) in enumerate(itertools.product(names, "abcde", "xy")):
            self.bind(node, f"{one} {two}", f"run r{number}")
        self.assert_refused("too many bindings", self.bind, "pop", "f", "run x")
        self.assert_refused("conflicting key sequence", self.bind, "ok", "a", "run x")
        self.manager.unbind("ok", "b x")
        self.bind("pop", "f", "run x")
        self.assert_refused("too many bindings", self.bind, "ok", "b x", "run x")

    def test_each_pair_of_errors_of_bind(self):
        for number in range(40):
            self.bind(("root", "ok", "list", "box")[number // 10], "0123456789"[number % 10], "run x")
        bad = ("invalid key sequence", "no command", "unknown node", "conflicting key sequence")
        sequence, command, node = ("a b c d", "b"), ("none", "run x"), ("nobody", "ok")
        for bad_keys, no_command, unknown in itertools.product((0, 1), repeat=3):
            arguments = node[unknown], sequence[bad_keys], command[no_command]
            if bad_keys == 0:
                self.assert_bad_keys(bad[0], self.bind, *arguments)
            elif no_command == 0:
                self.assert_refused(bad[1], self.bind, *arguments)
            else:
                self.assert_refused("unknown node" if unknown == 0 else "too many bindings", self.bind, *arguments)
        self.assert_refused("no command", self.bind, "ok", "1", "none")
        self.assert_refused("conflicting key sequence", self.bind, "ok", "1 2", "run x")

    def test_errors_of_unbind(self):
        for node in ("list", "nobody"):
            for sequence in ("", "a b c d", "none"):
                self.assert_bad_keys("invalid key sequence", self.manager.unbind, node, sequence)
        self.assert_refused("unknown node", self.manager.unbind, "nobody", "a")

    def test_bindings_of_removed_nodes(self):
        for node in ("list", "box", "pear", "ok", "root"):
            self.bind(node, "a", f"run {node}")
        self.manager.remove("list")
        self.assert_refused("unknown node", self.manager.bindings, "box")
        self.manager.insert("root", 0, "circular", "list", "")
        self.manager.insert("list", 0, "item", "pear", "")
        self.assertEqual(([], []), (self.manager.bindings("list"), self.manager.bindings("pear")))
        self.assertEqual([("A", "run ok")], self.manager.bindings("ok"))
        self.assertEqual([("A", "run root")], self.manager.bindings("root"))

    def test_bindings_of_removed_nodes_no_longer_count(self):
        for number in range(40):
            self.bind(("apple", "box", "list", "pear")[number // 10], "0123456789"[number % 10], "run x")
        self.assert_refused("too many bindings", self.bind, "root", "a", "run x")
        self.manager.remove("apple")
        for number in range(10):
            self.bind("root", "0123456789"[number], "run x")
        self.assert_refused("too many bindings", self.bind, "root", "a", "run x")

    def test_other_changes_keep_bindings(self):
        self.bind("pear", "a", "run x")
        for word, *arguments in (("hide", "pear"), ("move", "pear", "pop", 0), ("disable", "pop"), ("move", "pop", "box", 0)):
            getattr(self.manager, word)(*arguments)
            self.assertEqual([("A", "run x")], self.manager.bindings("pear"))


class PressTest(KeysCase):
    def test_keystrokes_in_any_writing(self):
        self.bind("root", "shift+ctrl+k", "run x")
        self.bind("root", "plus", "run y")
        for text in ("Ctrl+Shift+K", "shift+CTRL+k", "cTRL+sHIFT+K"):
            self.assert_triggered(text, "root", "run x")
        self.assert_triggered("PLUS", "root", "run y")
        self.assert_triggered("tAB", "root", "focusNext")
        for text in ("", " ", "a b", " a", "a ", "ctrl", "+", "ctrl+", "ctrl+ctrl+a", "none", "Return"):
            self.assert_bad_keys("invalid keystroke", self.press, text)

    def test_exact_matches_from_the_inside(self):
        path = ("root", "list", "box", "pear")
        for many in range(1, 5):
            self.bind(path[many - 1], "a", f"run r{many}")
            self.assert_triggered("a", path[many - 1], f"run r{many}")
        for many in (3, 2, 1):
            self.manager.unbind(path[many], "a")
            self.assert_triggered("a", path[many - 1], f"run r{many}")
        self.manager.unbind("root", "a")
        self.assert_unmatched("a")

    def test_nodes_that_are_not_on_the_path(self):
        for node in ("ok", "apple", "pop", "yes"):
            self.bind(node, "a", "run x")
            self.bind(node, "b c", "run x")
        self.assert_unmatched("a")
        self.assert_unmatched("b")
        self.manager.open_layer("pop")
        self.assert_triggered("a", "yes", "run x")
        self.manager.focus("no")
        self.assert_triggered("a", "pop", "run x")

    def test_the_layers_below_are_not_on_the_path(self):
        self.bind("root", "a", "run x")
        self.manager.open_layer("pop")
        self.assert_unmatched("a")
        self.assert_triggered("Escape", "pop", "closeTopLayer")
        self.assert_triggered("a", "root", "run x")

    def test_sequences_of_two_and_three(self):
        self.bind("list", "a b", "run two")
        self.bind("root", "c d e", "run three")
        self.assert_pending("A", "list", "A")
        self.assert_triggered("b", "list", "run two")
        self.assert_pending("c", "root", "C")
        self.assert_pending("d", "root", "C D")
        self.assert_triggered("e", "root", "run three")

    def test_a_partial_match_inside_goes_ahead_of_an_exact_one_outside(self):
        self.bind("root", "a", "run outer")
        self.bind("box", "a b", "run inner")
        self.assert_pending("a", "box", "A")
        self.assert_triggered("b", "box", "run inner")
        self.assert_pending("a", "box", "A")
        self.assert_unmatched("x")

    def test_an_exact_match_inside_goes_ahead_of_a_partial_one_outside(self):
        self.bind("root", "a b", "run outer")
        self.bind("pear", "a", "run inner")
        self.assert_triggered("a", "pear", "run inner")
        self.assert_unmatched("b")

    def test_a_sequence_may_go_on_at_another_node(self):
        self.bind("root", "a b", "run outer")
        self.bind("pear", "a c", "run inner")
        self.bind("box", "a b d", "run mid")
        self.assert_pending("a", "pear", "A")
        self.assert_pending("b", "box", "A B")
        self.assert_triggered("d", "box", "run mid")
        self.manager.unbind("box", "a b d")
        self.assert_pending("a", "pear", "A")
        self.assert_triggered("b", "root", "run outer")
        self.assert_pending("a", "pear", "A")
        self.assert_triggered("c", "pear", "run inner")

    def test_then_the_keystroke_alone(self):
        self.bind("box", "a b c", "run abc")
        self.bind("root", "x", "run exact")
        self.bind("list", "y z", "run partial")
        for strokes in ("a", "ab"):
            for text, expected, pending in (
                ("x", ("triggered", "root", "run exact", True), ""),
                ("y", ("pending", "list", "", False), "Y"),
                ("a", ("pending", "box", "", False), "A"),
                ("Enter", ("triggered", "root", "activate", True), ""),
                ("Up", ("triggered", "root", "previousItem", True), ""),
                ("q", UNMATCHED, ""),
                ("ctrl+b", UNMATCHED, ""),
            ):
                for stroke in strokes:
                    self.assertEqual("pending", self.press(stroke)[0])
                self.assert_pressed(text, *expected)
                self.assertEqual(pending, self.manager.pending())
                self.manager.focus("ok")
                self.manager.focus("pear")
                self.assertEqual("", self.manager.pending())

    def test_the_keystroke_alone_only_behind_a_pending_sequence(self):
        self.bind("root", "a b", "run x")
        self.assert_unmatched("b")
        self.assert_pending("a", "root", "A")
        self.assert_unmatched("c")
        self.assert_unmatched("b")

    def test_the_inner_part_of_a_sequence_does_not_count(self):
        self.bind("root", "a a b", "run x")
        self.assert_pending("a", "root", "A")
        self.assert_pending("a", "root", "A A")
        self.assert_pending("a", "root", "A")
        self.assert_pending("a", "root", "A A")
        self.assert_triggered("b", "root", "run x")

    def test_default_bindings(self):
        self.manager.focus("apple")
        for text, command, focused in (
            ("Tab", "focusNext", "ok"), ("Shift+Tab", "focusPrevious", "apple"), ("Right", "nextItem", "pear"),
            ("Down", "nextItem", "apple"), ("Left", "previousItem", "pear"), ("Up", "previousItem", "apple"),
            ("End", "lastItem", "pear"), ("Home", "firstItem", "apple"), ("Enter", "activate", "apple"),
            ("Space", "activate", "apple"),
        ):
            self.assert_triggered(text, "root", command)
            self.assertEqual(focused, self.manager.focused())
        self.assert_triggered("Escape", "root", "closeTopLayer", False)
        for text in ("Ctrl+Tab", "Shift+Right", "Backspace", "Alt+Enter", "PageUp", "F1", "a"):
            self.assert_unmatched(text)

    def test_default_bindings_at_the_topmost_layer(self):
        self.manager.open_layer("pop")
        self.assert_triggered("Tab", "pop", "focusNext")
        self.assertEqual("no", self.manager.focused())
        self.assert_triggered("Down", "pop", "nextItem", False)
        self.assert_triggered("Escape", "pop", "closeTopLayer")
        self.assertEqual(["root", "list", "box", "pear"], self.manager.focus_path())

    def test_a_bound_default_key(self):
        self.bind("list", "tab", "run x")
        self.bind("root", "tab", "run y")
        self.assert_triggered("Tab", "list", "run x")
        self.assertEqual("pear", self.manager.focused())
        self.manager.focus("ok")
        self.assert_triggered("Tab", "root", "run y")
        self.manager.unbind("root", "tab")
        self.assert_triggered("Tab", "root", "focusNext")

    def test_a_default_key_in_a_longer_sequence(self):
        self.bind("list", "tab enter", "run x")
        self.bind("root", "a escape", "run y")
        self.assert_pending("Tab", "list", "Tab")
        self.assert_triggered("Enter", "list", "run x")
        self.assert_pending("Tab", "list", "Tab")
        self.assert_triggered("Escape", "root", "closeTopLayer", False)
        self.assert_pending("a", "root", "A")
        self.assert_triggered("Escape", "root", "run y")
        self.assert_pending("a", "root", "A")
        self.assert_pending("Tab", "list", "Tab")
        self.assert_triggered("End", "root", "lastItem")

    def test_commands_that_are_triggered(self):
        for text, command, executed, path in (
            ("a", "focus ok", True, ["root", "ok"]), ("b", "focus yes", False, ["root", "ok"]),
            ("c", "nextItem", False, ["root", "ok"]), ("d", "openLayer pop", True, ["pop", "yes"]),
        ):
            self.bind("root", text, command)
            self.assert_triggered(text, "root", command, executed)
            self.assertEqual(path, self.manager.focus_path())

    def test_a_bound_command_may_lose_what_it_names(self):
        self.bind("root", "a", "focus ok")
        self.manager.remove("ok")
        self.assert_triggered("a", "root", "focus ok", False)


class PendingTest(KeysCase):
    def setUp(self):
        super().setUp()
        self.bind("root", "a b c", "run x")
        self.bind("pop", "a b c", "run y")
        self.assert_pending("a", "root", "A")

    def test_calls_that_change_the_focus_path(self):
        for word, *arguments in (
            ("focus_next",), ("focus_previous",), ("next_item",), ("first_item",), ("typeahead", "app"),
            ("focus", "ok"), ("open_layer", "pop"), ("execute", "focusNext"), ("execute", "openLayer pop"),
            ("execute", "previousItem"), ("remove", "pear"), ("hide", "box"), ("disable", "list"),
            ("move", "pear", "list", 0), ("move", "box", "root", 0), ("move", "pear", "pop", 0),
        ):
            self.setUp()
            getattr(self.manager, word)(*arguments)
            self.assertEqual("", self.manager.pending(), (word, arguments))

    def test_closing_a_layer(self):
        for word, argument in (("close_layer", "pop"), ("close_opening", 1), ("execute", "closeTopLayer"),
                               ("remove", "pop")):
            self.setUp()
            self.manager.open_layer("pop")
            self.assert_pending("a", "pop", "A")
            getattr(self.manager, word)(argument)
            self.assertEqual("", self.manager.pending(), word)

    def test_all_other_calls_keep_it(self):
        for word, *arguments in (
            ("focus", "pear"), ("last_item",), ("typeahead", "pear"), ("execute", "lastItem"), ("execute", "focus pear"),
            ("execute", "run x"), ("execute", "activate"), ("execute", "closeTopLayer"), ("execute", "focus yes"),
            ("execute", 'announce "x"'), ("set_label", "pear", "x"), ("hide", "ok"), ("remove", "apple"),
            ("insert", "box", 0, "item", "new", ""), ("move", "box", "list", 0), ("move", "list", "root", 0),
            ("bind", "pear", "a", "run x"), ("unbind", "root", "a b c"), ("announce", "x", True), ("take",),
            ("is_closed", 1), ("close_opening", 1), ("nodes",), ("outline",), ("shortest_route", "apple"),
            ("shadowing", "root", "a b c"), ("queued",), ("bindings", "root"), ("show", "pear"), ("pending",),
        ):
            self.setUp()
            getattr(self.manager, word)(*arguments)
            self.assertEqual("A", self.manager.pending(), (word, arguments))
        self.assertEqual("A", self.manager.pending())

    def test_errors_keep_it(self):
        self.assert_bad_keys("invalid keystroke", self.press, "none")
        self.assert_refused("unknown node", self.manager.focus, "nobody")
        self.assert_refused("no command", self.manager.execute, "none")
        self.assertEqual("A", self.manager.pending())

    def test_what_is_bound_meanwhile_counts(self):
        self.bind("pear", "a b", "run two")
        self.assert_triggered("b", "pear", "run two")
        self.assert_pending("a", "pear", "A")
        self.manager.unbind("pear", "a b")
        self.manager.unbind("root", "a b c")
        self.assertEqual("A", self.manager.pending())
        self.assert_unmatched("b")

    def test_a_binding_that_goes_with_its_node(self):
        self.bind("apple", "q", "run q")
        self.manager.focus("ok")
        self.bind("ok", "x y", "run x")
        self.assert_pending("x", "ok", "X")
        self.manager.remove("apple")
        self.assert_triggered("y", "ok", "run x")

    def test_a_focus_path_that_is_left_and_reached_again_in_one_call(self):
        manager = self.manager_of('  linear a ""', '    item b ""')
        manager.bind("root", "x y", "run x")
        manager.press("x")
        self.assertEqual("b", manager.focus_next())
        self.assertEqual("X", manager.pending())


class ShadowingTest(KeysCase):
    def test_the_innermost_node(self):
        self.bind("root", "a b", "run x")
        self.assertIsNone(self.manager.shadowing("root", "a b"))
        self.bind("list", "a", "run y")
        self.assertEqual("list", self.manager.shadowing("root", " A  B "))
        self.assertIsNone(self.manager.shadowing("list", "a"))
        self.bind("pear", "a b c", "run z")
        self.assertEqual(("pear", "pear"), (self.manager.shadowing("root", "a b"), self.manager.shadowing("list", "a")))
        self.assertIsNone(self.manager.shadowing("pear", "a b c"))
        self.manager.unbind("pear", "a b c")
        self.bind("pear", "a c", "run z")
        self.assertEqual("pear", self.manager.shadowing("root", "a b"))
        self.bind("apple", "a", "run z")
        self.manager.focus("apple")
        self.assertEqual("apple", self.manager.shadowing("root", "a b"))
        self.manager.focus("ok")
        self.assertIsNone(self.manager.shadowing("root", "a b"))

    def test_only_nodes_further_inside(self):
        for node in ("root", "list", "box"):
            self.bind(node, "a", f"run {node}")
        self.assertEqual(("box", "box", None),
                         tuple(self.manager.shadowing(node, "a") for node in ("root", "list", "box")))
        self.manager.unbind("box", "a")
        self.bind("box", "b", "run box")
        self.assertEqual(("list", None), tuple(self.manager.shadowing(node, "a") for node in ("root", "list")))

    def test_errors(self):
        shadowing = self.manager.shadowing
        self.bind("ok", "a", "run x")
        self.bind("root", "a b", "run x")
        for node in ("root", "ok", "nobody"):
            self.assert_bad_keys("invalid key sequence", shadowing, node, "a b c d")
            self.assert_bad_keys("invalid key sequence", shadowing, node, "")
        for sequence in ("a", "b"):
            self.assert_refused("unknown node", shadowing, "nobody", sequence)
            for node in ("ok", "apple", "pop", "yes"):
                self.assert_refused("node is not on the focus path", shadowing, node, sequence)
        for sequence in ("a", "b", "a b c"):
            self.assert_refused("key sequence is not bound", shadowing, "root", sequence)
        self.assert_refused("key sequence is not bound", shadowing, "pear", "a b")
        self.manager.open_layer("pop")
        self.assert_refused("node is not on the focus path", shadowing, "root", "a b")


if __name__ == "__main__":
    unittest.main()
