"""Point 23: each command, applicable and not."""

import unittest

from managers import ManagerCase, state

SAMPLE = (
    '  item ok "OK"',
    '  linear list "Fruits"',
    '    item apple "Apple"',
    '    item pear "Pear"',
    '    item plum "Plum"',
    '  item shy "" hidden',
    '  layer pop ""',
    '    item yes ""',
    '  layer void ""',
)
MOVEMENTS = ("focusNext", "focusPrevious", "nextItem", "previousItem", "firstItem", "lastItem")


class ExecuteTest(ManagerCase):
    def setUp(self):
        self.manager = self.manager_of(*SAMPLE)

    def assert_executed(self, command, focused):
        self.assertIs(True, self.manager.execute(command), command)
        self.assertEqual(focused, self.manager.focused(), command)

    def assert_not_executed(self, *commands):
        for command in commands:
            before = state(self.manager)
            self.assertIs(False, self.manager.execute(command), command)
            self.assertEqual(before, state(self.manager), command)

    def test_tab_stops(self):
        for command, focused in (("focusNext", "apple"), ("focusNext", "ok"), ("focusPrevious", "apple"),
                                 ("focusPrevious", "ok")):
            self.assert_executed(command, focused)

    def test_one_tab_stop_alone(self):
        self.manager.open_layer("pop")
        self.assert_executed("focusNext", "yes")
        self.assert_executed("focusPrevious", "yes")

    def test_movements_in_a_composite(self):
        self.manager.focus("apple")
        for command, focused in (
            ("previousItem", "apple"), ("firstItem", "apple"), ("nextItem", "pear"), ("nextItem", "plum"),
            ("nextItem", "plum"), ("lastItem", "plum"), ("previousItem", "pear"), ("lastItem", "plum"),
            ("firstItem", "apple"),
        ):
            self.assert_executed(command, focused)
            self.assertEqual(focused, self.manager.current_item("list"))

    def test_movements_outside_of_a_composite(self):
        self.assert_not_executed(*MOVEMENTS[2:])

    def test_without_any_focused_item(self):
        self.manager.open_layer("void")
        self.assert_not_executed(*MOVEMENTS, "activate")
        self.assert_executed("run x", None)
        self.assert_executed('announce "x"', None)
        self.assert_executed("closeTopLayer", "ok")

    def test_close_top_layer(self):
        self.assert_not_executed("closeTopLayer")
        self.manager.open_layer("void")
        self.manager.open_layer("pop")
        self.assert_executed("closeTopLayer", None)
        self.assertEqual((["root", "void"], True, False),
                         (self.manager.open_layers(), self.manager.is_closed(2), self.manager.is_closed(1)))
        self.assert_executed("closeTopLayer", "ok")
        self.assert_not_executed("closeTopLayer")

    def test_activate_and_run_change_nothing(self):
        for command in ("activate", "run x", "run nobody", "run ok"):
            before = state(self.manager)
            self.assert_executed(command, "ok")
            self.assertEqual(before, state(self.manager))

    def test_focus(self):
        self.assert_executed("focus plum", "plum")
        self.assertEqual("plum", self.manager.current_item("list"))
        self.assert_executed("focus plum", "plum")
        self.assert_not_executed("focus nobody", "focus yes", "focus shy", "focus list", "focus root", "focus pop")
        self.manager.open_layer("pop")
        self.assert_not_executed("focus plum", "focus ok")
        self.assert_executed("focus yes", "yes")

    def test_open_layer(self):
        self.assert_executed("openLayer pop", "yes")
        self.assertIs(False, self.manager.is_closed(1))
        self.assert_not_executed("openLayer pop", "openLayer root", "openLayer nobody", "openLayer ok", "openLayer list")
        self.assert_executed("openLayer void", None)
        self.assertEqual((["root", "pop", "void"], False, True),
                         (self.manager.open_layers(), self.manager.is_closed(2), self.manager.is_closed(3)))

    def test_six_open_layers(self):
        for number in range(5):
            self.manager.insert("root", 0, "layer", f"l{number}", "")
            self.assert_executed(f"openLayer l{number}", None)
        self.assert_not_executed("openLayer pop")

    def test_announce(self):
        self.manager.take()
        self.assert_executed('announce "Saved"', "ok")
        self.assert_executed('announce "a \\"b\\" \\\\"', "ok")
        self.assert_executed('announce ""', "ok")
        self.assertEqual([("message", "Saved", False), ("message", 'a "b" \\', False), ("message", "", False)],
                         self.manager.queued())
        for number in range(37):
            self.manager.announce("more", False)
        self.assert_not_executed('announce "the 41st"')

    def test_no_commands(self):
        for command in ("", " ", "focusnext", "FocusNext", "focusNext ", " focusNext", "focusNext x", "focus", "focus ",
                        "focus  ok", "focus OK", "focus ok ", "focus ok pear", "focus toolongname", "openLayer",
                        "openlayer pop", "run", "run ", "run X", "announce", "announce ", "announce x", 'announce "x',
                        'announce  "x"', 'announce "x" ', 'announce ""x"', "closeTopLayer pop", "close", "activate ok",
                        "next_item", "typeahead a", "take", "focus\nok"):
            self.assert_refused("no command", self.manager.execute, command)


if __name__ == "__main__":
    unittest.main()
