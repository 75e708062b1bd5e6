"""Points 21 and 24: which keys mean what at the focus of a manager."""

import unittest

from chances import STROKES, Chance
from keyfocus.errors import BadKeys
from keyfocus.keyhelp import help_text, hidden_bindings, live_bindings, live_defaults, meaning, next_strokes
from keyfocus.keystrokes import keystroke
from keyfocus.manager import Manager
from keyfocus.outlines import write_outline
from managers import ManagerCase, outline_of, state
from model import DEFAULTS, Model
from trees import random_tree

SAMPLE = (
    '  item ok "OK"',
    '  circular list "Fruits"',
    '    item apple "Apple"',
    '    item pear "Pear"',
    '  layer pop ""',
    '    item yes ""',
)
LISTS = (live_bindings, hidden_bindings, live_defaults, next_strokes)


class KeyHelpCase(ManagerCase):
    def setUp(self):
        self.manager = Manager(outline_of(*SAMPLE))
        self.manager.focus("pear")

    def bind(self, *rows):
        for node, sequence, command in rows:
            self.manager.bind(node, sequence, command)

    def assert_told(self, expected, tell, *arguments):
        before = state(self.manager)
        self.assertEqual(expected, tell(self.manager, *arguments))
        self.assertEqual(before, state(self.manager))


class BindingsTest(KeyHelpCase):
    def test_no_bindings(self):
        self.assert_told([], live_bindings)
        self.assert_told([], hidden_bindings)

    def test_from_the_focused_item_outward_in_the_order_of_binding(self):
        self.bind(("root", "d", "run d"), ("root", "ctrl+c  x", "run c"), ("list", "b", "run b"),
                  ("pear", "z", "run z"), ("pear", "a", "run a"), ("ok", "e", "run e"), ("pop", "f", "run f"))
        self.assert_told([("Z", "pear", "run z"), ("A", "pear", "run a"), ("B", "list", "run b"),
                          ("D", "root", "run d"), ("Ctrl+C X", "root", "run c")], live_bindings)
        self.assert_told([], hidden_bindings)
        self.manager.open_layer("pop")
        self.assert_told([("F", "pop", "run f")], live_bindings)

    def test_what_hides_a_binding(self):
        for inner, hidden in (("a", True), ("a b", True), ("a b c", True), ("a c", True), ("b", False), ("b a", False),
                              ("a b d", True), ("c a b", False)):
            self.setUp()
            self.bind(("root", "a b", "run outer"), ("pear", inner, "run inner"))
            row = ("A B", "root", "run outer")
            self.assert_told([("A B", "root", "pear")] if hidden else [], hidden_bindings)
            self.assertEqual(not hidden, row in live_bindings(self.manager), inner)

    def test_the_innermost_node_is_in_the_way(self):
        self.bind(("root", "a", "run x"), ("root", "b", "run y"), ("list", "a b", "run z"), ("list", "b", "run y"),
                  ("pear", "a", "run inner"))
        self.assert_told([("A B", "list", "pear"), ("A", "root", "pear"), ("B", "root", "list")], hidden_bindings)
        self.assert_told([("A", "pear", "run inner"), ("B", "list", "run y")], live_bindings)

    def test_nodes_further_out_hide_nothing(self):
        self.bind(("root", "a", "run x"), ("pear", "a b", "run y"))
        self.assert_told([("A B", "pear", "run y")], live_bindings)
        self.assert_told([("A", "root", "pear")], hidden_bindings)


class DefaultsTest(KeyHelpCase):
    def test_all_of_them_in_order(self):
        self.assert_told(list(DEFAULTS.items()), live_defaults)

    def test_those_that_a_node_on_the_path_matches(self):
        self.bind(("root", "tab", "run x"), ("pear", "down a", "run x"), ("list", "enter a space", "run x"),
                  ("ok", "end", "run x"), ("pop", "home", "run x"), ("root", "a up", "run x"),
                  ("root", "ctrl+left", "run x"))
        left = [row for row in DEFAULTS.items() if row[0] not in ("Tab", "Down", "Enter")]
        self.assert_told(left, live_defaults)
        self.manager.press("a")
        self.assert_told(left, live_defaults)
        self.manager.open_layer("pop")
        self.assert_told([row for row in DEFAULTS.items() if row[0] != "Home"], live_defaults)


class MeaningTest(KeyHelpCase):
    def test_each_result(self):
        self.bind(("root", "a", "run x"), ("list", "b c", "run y"), ("pop", "z", "run z"))
        for text, expected in (
            ("A", ("triggered", "root", "run x")), ("b", ("pending", "list", "")), ("c", ("unmatched", "", "")),
            ("tab", ("triggered", "root", "focusNext")), ("Escape", ("triggered", "root", "closeTopLayer")),
            ("z", ("unmatched", "", "")),
        ):
            self.assert_told(expected, meaning, text)
        self.manager.open_layer("pop")
        self.assert_told(("triggered", "pop", "run z"), meaning, "z")
        self.assert_told(("triggered", "pop", "activate"), meaning, "space")
        self.assert_told(("unmatched", "", ""), meaning, "a")

    def test_with_a_pending_sequence(self):
        self.bind(("root", "a", "run x"), ("list", "b c d", "run y"), ("pear", "b c e", "run z"))
        self.manager.press("b")
        self.assert_told(("pending", "pear", ""), meaning, "c")
        self.assert_told(("triggered", "root", "run x"), meaning, "a")
        self.assert_told(("pending", "pear", ""), meaning, "b")
        self.assert_told(("unmatched", "", ""), meaning, "d")
        self.assert_told(("triggered", "root", "nextItem"), meaning, "right")
        self.manager.press("c")
        self.assert_told(("triggered", "list", "run y"), meaning, "d")
        self.assert_told(("triggered", "pear", "run z"), meaning, "e")

    def test_bad_keystrokes(self):
        for text in ("", "a b", "ctrl", " a", "+"):
            with self.assertRaises(BadKeys) as caught:
                meaning(self.manager, text)
            self.assertEqual("invalid keystroke", caught.exception.what)


class NextStrokesTest(KeyHelpCase):
    def test_without_a_pending_sequence(self):
        self.assert_told([], next_strokes)
        self.bind(("root", "b", "run x"), ("root", "c d", "run x"), ("list", "a", "run x"), ("pear", "b e", "run x"),
                  ("pear", "f1 a", "run x"), ("pear", "alt+z", "run x"), ("ok", "q", "run x"), ("pop", "r", "run x"),
                  ("list", "!", "run x"))
        self.assert_told(["!", "A", "Alt+Z", "B", "C", "F1"], next_strokes)

    def test_behind_a_pending_sequence(self):
        self.bind(("root", "a b c", "run x"), ("root", "a e", "run x"), ("list", "a b d", "run x"),
                  ("pear", "a f", "run x"), ("pear", "b", "run x"), ("apple", "a g", "run x"))
        self.manager.press("a")
        self.assert_told(["B", "E", "F"], next_strokes)
        self.manager.press("b")
        self.assert_told(["C", "D"], next_strokes)
        self.manager.press("c")
        self.assert_told(["A", "B"], next_strokes)

    def test_what_has_changed_since_it_was_pending(self):
        self.bind(("root", "a b", "run x"))
        self.manager.press("a")
        self.bind(("pear", "a", "run y"))
        self.assert_told(["B"], next_strokes)
        self.manager.unbind("root", "a b")
        self.assert_told([], next_strokes)
        self.assertEqual("A", self.manager.pending())


class HelpTextTest(KeyHelpCase):
    DEFAULT_LINES = [f"{stroke}: {command}" for stroke, command in DEFAULTS.items()]

    def assert_lines(self, *lines):
        self.assert_told("\n".join(lines), help_text)

    def test_defaults_alone(self):
        self.assert_lines(*self.DEFAULT_LINES)

    def test_bindings_defaults_and_a_pending_sequence(self):
        self.bind(("root", "ctrl+k ctrl+s", 'announce "a: b"'), ("list", "tab", "run x"), ("root", "tab", "run hidden"))
        lines = ["Tab: run x (list)", 'Ctrl+K Ctrl+S: announce "a: b" (root)'] + self.DEFAULT_LINES[1:]
        self.assert_lines(*lines)
        self.manager.press("Ctrl+K")
        self.assert_lines(*lines, "waiting: Ctrl+K")
        self.manager.focus("ok")
        self.assert_lines('Ctrl+K Ctrl+S: announce "a: b" (root)', "Tab: run hidden (root)", *self.DEFAULT_LINES[1:])

    def test_a_pending_sequence_of_two(self):
        self.bind(("root", "a b c", "run x"))
        self.manager.press("a")
        self.manager.press("b")
        self.assert_lines("A B C: run x (root)", *self.DEFAULT_LINES, "waiting: A B")


class ManyCallsTest(unittest.TestCase):
    def test_many_calls(self):
        for seed in range(30):
            outline = write_outline(random_tree(seed, 8, 0.05))
            manager, model, chance = Manager(outline), Model(outline), Chance(seed)
            for _ in range(40):
                word, arguments = chance.call(manager)
                if word in ("bind", "unbind", "press", "focus", "open_layer"):
                    for one in (manager, model):
                        self.done(one, word, arguments)
                    self.compare(manager, model)

    def done(self, manager, word, arguments):
        try:
            getattr(manager, word)(*arguments)
        except ValueError:
            pass

    def compare(self, manager, model):
        before = state(manager)
        path = model.focus_path()
        rows = [row for node in reversed(path) for row in model.bound if row[0] == node]
        live = [(" ".join(strokes), node, command) for node, strokes, command in rows
                if not model.shadowing(node, " ".join(strokes))]
        hidden = [(" ".join(strokes), node, model.shadowing(node, " ".join(strokes))) for node, strokes, _ in rows]
        self.assertEqual(live, live_bindings(manager))
        self.assertEqual([row for row in hidden if row[2]], hidden_bindings(manager))
        self.assertEqual([row for row in DEFAULTS.items() if model.decided((row[0],)) is None], live_defaults(manager))
        many = len(model.waiting)
        following = {strokes[many] for _, strokes, _ in rows if strokes[:many] == model.waiting and strokes[many:]}
        self.assertEqual(sorted(following), next_strokes(manager))
        for text in STROKES:
            self.assertEqual(model.told_of(keystroke(text))[:3], meaning(manager, text))
        self.assertEqual(before, state(manager))


class ListsTest(KeyHelpCase):
    def test_each_list_is_a_list_of_its_own(self):
        self.bind(("root", "a", "run x"), ("pear", "a", "run x"), ("list", "b", "run x"))
        for tell in LISTS:
            found = tell(self.manager)
            self.assertIs(list, type(found))
            copy = list(found)
            found.clear()
            self.assert_told(copy, tell)


if __name__ == "__main__":
    unittest.main()
