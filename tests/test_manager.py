"""Points 10, 14 to 17, 23 and 25 at a manager: what it tells, its edits, and movements of the focus."""

import unittest

from keyfocus.errors import BadOutline
from keyfocus.manager import Manager
from managers import ManagerCase, outline_of, state

SAMPLE = (
    '  item a "Alpha"',
    '  circular ring "Ring"',
    '    item b "Beta"',
    '    container box ""',
    '      item c "Gamma"',
    '    linear in ""',
    '      item d "beta too"',
    '  container rest "" hidden',
    '    item e ""',
    '  linear bar "Bar"',
    '    item f "Beta"',
    '    item g "Gamma"',
    '  layer pop "Pop"',
    '    item h ""',
    '    linear row ""',
    '      item i "" disabled',
    '      item j "Beta"',
)


class SampleCase(ManagerCase):
    def setUp(self):
        self.manager = self.manager_of(*SAMPLE)


class OutlineTest(ManagerCase):
    def test_the_example_of_the_document(self):
        manager = Manager('layer root "Shop"\n  item ok "OK"\n  circular list "Fruits"\n'
                          '    item apple "Apple"\n    item pear "Pear"')
        self.assertEqual((["root", "ok"], "apple", "pear"),
                         (manager.focus_path(), manager.focus_next(), manager.next_item()))
        self.assertEqual((1, "apple"), (manager.remove("pear"), manager.focused()))
        self.assertEqual(("path", 0, (("root", "layer", "Shop", 0, 0), ("list", "circular", "Fruits", 0, 0),
                                      ("apple", "item", "Apple", 1, 1))), manager.take())

    def test_bad_outlines(self):
        for outline, line in (("", 0), ('layer top ""', 0), ('layer root ""\n', 1), ('layer root ""\n item a ""', 1),
                              ('layer root ""\n  item a ""\n  item a ""', 2)):
            with self.assertRaises(BadOutline) as caught:
                Manager(outline)
            self.assertEqual(line, caught.exception.line)

    def test_the_root_alone(self):
        manager = self.manager_of()
        self.assertEqual([("root", "layer", "Root", True, True, 0)], manager.nodes())
        self.assertEqual('layer root "Root"', manager.outline())
        self.assertEqual((None, ["root"], ["root"]), (manager.focused(), manager.focus_path(), manager.open_layers()))
        self.assertEqual([("path", 0, (("root", "layer", "Root", 0, 0),))], manager.queued())
        self.assertEqual(([], []), (manager.focusable_items("root"), manager.tab_stops("root")))
        for word in ("focus_next", "focus_previous", "next_item", "previous_item", "first_item", "last_item"):
            self.assertIsNone(getattr(manager, word)())
        self.assertIsNone(manager.typeahead(""))
        self.assertIsNone(manager.layer_item("root"))

    def test_managers_share_nothing(self):
        one, other = self.manager_of(*SAMPLE), self.manager_of(*SAMPLE)
        before = state(other.manager)
        one.bind("root", "a", "run x")
        one.open_layer("pop")
        one.remove("ring")
        one.announce("one", True)
        self.assertEqual(before, state(other.manager))


class TellingTest(SampleCase):
    def test_nodes(self):
        nodes = self.manager.nodes()
        self.assertEqual(("root", "layer", "Root", True, True, 0), nodes[0])
        self.assertEqual(["root", "a", "ring", "b", "box", "c", "in", "d", "rest", "e", "bar", "f", "g", "pop", "h",
                          "row", "i", "j"], [row[0] for row in nodes])
        self.assertEqual(("rest", "container", "", False, True, 1), self.manager.node("rest"))
        self.assertEqual(("i", "item", "", True, False, 3), self.manager.node("i"))
        self.assertEqual(nodes, [self.manager.node(row[0]) for row in nodes])
        for name in ("nobody", "", "A"):
            self.assertIsNone(self.manager.node(name))
        self.assertEqual(outline_of(*SAMPLE), self.manager.outline())

    def test_children_and_ancestors(self):
        self.assertEqual(["a", "ring", "rest", "bar", "pop"], self.manager.children("root"))
        self.assertEqual([], self.manager.children("a"))
        self.assertEqual(["box", "ring", "root"], self.manager.ancestors("c"))
        self.assertEqual([], self.manager.ancestors("root"))
        self.assert_refused("unknown node", self.manager.children, "nobody")
        self.assert_refused("unknown node", self.manager.ancestors, "nobody")

    def test_focusable_items_and_tab_stops(self):
        self.assertEqual(["a", "b", "c", "d", "f", "g"], self.manager.focusable_items("root"))
        self.assertEqual(["h", "j"], self.manager.focusable_items("pop"))
        self.assertEqual(["a", "ring", "bar"], self.manager.tab_stops("root"))
        self.assertEqual(["h", "row"], self.manager.tab_stops("pop"))
        for call in (self.manager.focusable_items, self.manager.tab_stops):
            self.assert_refused("unknown node", call, "nobody")
            for name in ("a", "ring", "rest", "bar"):
                self.assert_refused("not a layer", call, name)

    def test_current_items(self):
        for composite, item in (("ring", "b"), ("in", None), ("bar", "f"), ("row", "j")):
            self.assertEqual(item, self.manager.current_item(composite))
        self.assert_refused("unknown node", self.manager.current_item, "nobody")
        for name in ("root", "a", "rest", "pop"):
            self.assert_refused("not a composite", self.manager.current_item, name)
        self.manager.hide("f")
        self.manager.hide("g")
        self.assertIsNone(self.manager.current_item("bar"))
        self.manager.disable("row")
        self.assertIsNone(self.manager.current_item("row"))

    def test_layer_items(self):
        self.assertEqual("a", self.manager.layer_item("root"))
        self.assert_refused("unknown node", self.manager.layer_item, "nobody")
        for name in ("pop", "a", "ring"):
            self.assert_refused("layer is not open", self.manager.layer_item, name)
        self.manager.open_layer("pop")
        self.assertEqual(("h", "a"), (self.manager.layer_item("pop"), self.manager.layer_item("root")))

    def test_focus_paths(self):
        for item, path in (("a", ["root", "a"]), ("b", ["root", "ring", "b"]), ("c", ["root", "ring", "box", "c"]),
                           ("d", ["root", "ring", "in", "d"])):
            self.manager.focus(item)
            self.assertEqual((item, path), (self.manager.focused(), self.manager.focus_path()))
        self.manager.open_layer("pop")
        self.assertEqual(["pop", "h"], self.manager.focus_path())
        self.manager.focus("j")
        self.assertEqual(["pop", "row", "j"], self.manager.focus_path())
        self.manager.disable("h")
        self.manager.hide("j")
        self.assertEqual((None, ["pop"]), (self.manager.focused(), self.manager.focus_path()))

    def test_the_first_item_may_be_a_member(self):
        manager = self.manager_of('  circular a ""', '    item b "" hidden', '    item c ""', '  item d ""')
        self.assertEqual(("c", "c"), (manager.focused(), manager.current_item("a")))


class FocusTest(SampleCase):
    def test_tab_stops_by_turns(self):
        self.assertEqual(["b", "f", "a", "b"], [self.manager.focus_next() for _ in range(4)])
        self.assertEqual(["a", "f", "b", "a"], [self.manager.focus_previous() for _ in range(4)])

    def test_the_entry_item_is_the_current_one(self):
        self.manager.focus("d")
        self.assertEqual("d", self.manager.current_item("ring"))
        self.assertEqual(["f", "a", "d"], [self.manager.focus_next() for _ in range(3)])
        self.manager.focus("g")
        self.manager.focus("a")
        self.assertEqual(["g", "d", "a"], [self.manager.focus_previous() for _ in range(3)])

    def test_one_tab_stop_alone(self):
        manager = self.manager_of('  linear a ""', '    item b ""', '    item c ""')
        manager.focus("c")
        self.assertEqual(("c", "c"), (manager.focus_next(), manager.focus_previous()))

    def test_movements_in_a_circular_composite(self):
        self.manager.focus("b")
        self.assertEqual(["c", "d", "b"], [self.manager.next_item() for _ in range(3)])
        self.assertEqual(["d", "c", "b"], [self.manager.previous_item() for _ in range(3)])
        self.assertEqual(("d", "b"), (self.manager.last_item(), self.manager.first_item()))
        self.assertEqual("b", self.manager.current_item("ring"))

    def test_movements_in_a_linear_composite(self):
        self.manager.focus("f")
        self.assertEqual(["f", "f"], [self.manager.previous_item(), self.manager.first_item()])
        self.assertEqual(["g", "g", "g"], [self.manager.next_item(), self.manager.next_item(), self.manager.last_item()])
        self.assertEqual("g", self.manager.current_item("bar"))
        self.assertEqual("f", self.manager.previous_item())

    def test_movements_outside_of_a_composite(self):
        for word in ("next_item", "previous_item", "first_item", "last_item"):
            self.assertEqual("a", getattr(self.manager, word)())
        self.assertEqual("a", self.manager.typeahead("beta"))
        self.assertEqual(["root", "a"], self.manager.focus_path())

    def test_typeahead(self):
        self.manager.focus("b")
        self.assertEqual(["d", "b", "c", "d"], [self.manager.typeahead(text) for text in ("BET", "b", "gam", "beta")])
        self.assertEqual("d", self.manager.typeahead("zeta"))
        self.assertEqual("d", self.manager.current_item("ring"))
        self.manager.set_label("c", "Zeta")
        self.assertEqual(("c", "c"), (self.manager.typeahead("zETA"), self.manager.current_item("ring")))

    def test_focus_by_name(self):
        self.assertIsNone(self.manager.focus("d"))
        self.assertEqual(("d", "d"), (self.manager.focused(), self.manager.current_item("ring")))
        self.assertIsNone(self.manager.focus("d"))
        self.assert_refused("unknown node", self.manager.focus, "nobody")
        for name in ("root", "ring", "box", "e", "pop", "h", "j", "i"):
            self.assert_refused("item is not focusable", self.manager.focus, name)
        self.manager.open_layer("pop")
        for name in ("a", "i", "b"):
            self.assert_refused("item is not focusable", self.manager.focus, name)
        self.manager.focus("j")
        self.assertEqual(("j", "d", "j"), (self.manager.focused(), self.manager.layer_item("root"),
                                           self.manager.current_item("row")))

    def test_in_the_topmost_layer(self):
        self.manager.open_layer("pop")
        self.assertEqual(["j", "h", "j"], [self.manager.focus_next() for _ in range(3)])
        self.manager.show("rest")
        self.assertEqual(["h", "j"], [self.manager.focus_previous() for _ in range(2)])


class EditTest(SampleCase):
    def test_insert(self):
        self.assertIsNone(self.manager.insert("ring", 1, "item", "new", "New"))
        self.assertEqual(["b", "new", "box", "in"], self.manager.children("ring"))
        self.assertEqual(("new", "item", "New", True, True, 2), self.manager.node("new"))
        self.assertEqual("a", self.manager.focused())
        self.assertIsNone(self.manager.insert("root", 0, "item", "first", ""))
        self.assertEqual(("a", ["first", "a", "ring", "bar"]),
                         (self.manager.focused(), self.manager.tab_stops("root")))

    def test_errors_of_insert(self):
        insert = self.manager.insert
        for parent, index, name, what in (
            ("nobody", 0, "new", "unknown node"), ("nobody", 9, "a", "unknown node"),
            ("a", 0, "new", "an item cannot have children"), ("a", 1, "a", "an item cannot have children"),
            ("ring", 4, "new", "index out of range"), ("ring", 4, "a", "index out of range"),
            ("ring", 3, "a", "duplicate name"), ("root", 0, "root", "duplicate name"),
        ):
            self.assert_refused(what, insert, parent, index, "item", name, "")
        parent = "root"
        for depth in range(1, 9):
            insert(parent, 0, "container", f"deep{depth}", "")
            parent = f"deep{depth}"
        self.assert_refused("tree too deep", insert, "deep8", 0, "item", "new", "")
        self.assert_refused("tree too deep", insert, "deep8", 0, "item", "a", "")
        self.assert_refused("index out of range", insert, "deep8", 1, "item", "new", "")
        for number in range(60 - len(self.manager.nodes())):
            insert("rest", 0, "item", f"more{number}", "")
        self.assert_refused("too many nodes", insert, "root", 0, "item", "new", "")
        self.assert_refused("duplicate name", insert, "root", 0, "item", "a", "")

    def test_move(self):
        self.assertIsNone(self.manager.move("box", "root", 0))
        self.assertEqual(["box", "a", "ring", "rest", "bar", "pop"], self.manager.children("root"))
        self.assertEqual(["c", "a", "ring", "bar"], self.manager.tab_stops("root"))
        self.assertIsNone(self.manager.move("a", "root", 1))
        self.assertIsNone(self.manager.move("a", "root", 5))
        self.assertEqual(["box", "ring", "rest", "bar", "pop", "a"], self.manager.children("root"))
        self.assertEqual("a", self.manager.focused())

    def test_errors_of_move(self):
        for name, parent, index, what in (
            ("nobody", "root", 0, "unknown node"), ("a", "nobody", 0, "unknown node"),
            ("root", "nobody", 0, "unknown node"), ("nobody", "a", 9, "unknown node"),
            ("root", "a", 0, "not allowed for the root layer"), ("root", "ring", 9, "not allowed for the root layer"),
            ("ring", "b", 0, "an item cannot have children"), ("b", "b", 5, "an item cannot have children"),
            ("ring", "in", 9, "cannot move a node into itself"), ("ring", "ring", 0, "cannot move a node into itself"),
            ("a", "root", 5, "index out of range"), ("a", "ring", 4, "index out of range"),
        ):
            self.assert_refused(what, self.manager.move, name, parent, index)
        parent = "root"
        for depth in range(1, 8):
            self.manager.insert(parent, 0, "container", f"deep{depth}", "")
            parent = f"deep{depth}"
        self.assert_refused("tree too deep", self.manager.move, "rest", "deep7", 0)
        self.assert_refused("index out of range", self.manager.move, "rest", "deep7", 1)
        self.assertIsNone(self.manager.move("a", "deep7", 0))
        self.assertEqual(8, self.manager.node("a")[5])

    def test_remove(self):
        self.assertEqual(6, self.manager.remove("ring"))
        self.assertEqual(1, self.manager.remove("e"))
        self.assertEqual(["root", "a", "rest", "bar", "f", "g", "pop", "h", "row", "i", "j"],
                         [row[0] for row in self.manager.nodes()])
        self.assert_refused("unknown node", self.manager.remove, "ring")
        self.assert_refused("unknown node", self.manager.remove, "c")
        self.assert_refused("not allowed for the root layer", self.manager.remove, "root")

    def test_labels(self):
        self.assertIsNone(self.manager.set_label("a", 'new "a"'))
        self.assertIsNone(self.manager.set_label("root", ""))
        self.assertEqual(("a", "item", 'new "a"', True, True, 1), self.manager.node("a"))
        self.assertEqual('layer root ""\n  item a "new \\"a\\""', "\n".join(self.manager.outline().split("\n")[:2]))
        self.assert_refused("unknown node", self.manager.set_label, "nobody", "")

    def test_flags(self):
        for word, back, column in (("hide", "show", 3), ("disable", "enable", 4)):
            for name in ("a", "ring", "pop"):
                self.assertIs(False, getattr(self.manager, back)(name))
                self.assertIs(True, getattr(self.manager, word)(name))
                self.assertIs(False, self.manager.node(name)[column])
                self.assertIs(True, self.manager.node(name)[7 - column])
                self.assertIs(False, getattr(self.manager, word)(name))
                self.assertIs(True, getattr(self.manager, back)(name))
                self.assertIs(True, self.manager.node(name)[column])
            for call in (word, back):
                self.assert_refused("unknown node", getattr(self.manager, call), "nobody")
                self.assert_refused("not allowed for the root layer", getattr(self.manager, call), "root")


class AnnouncementTest(SampleCase):
    def steps(self, *names, **places):
        rows = {row[0]: row for row in self.manager.nodes()}
        return tuple(rows[name][:3] + places.get(name, (0, 0)) for name in names)

    def take_all(self):
        found = []
        while self.manager.queued():
            found.append(self.manager.take())
        return found

    def test_a_new_manager_has_one_path(self):
        self.assertEqual([("path", 0, self.steps("root", "a"))], self.manager.queued())
        self.assertEqual(("path", 0, self.steps("root", "a")), self.manager.take())
        self.assertIsNone(self.manager.take())
        self.assertEqual([], self.manager.queued())

    def test_members_have_a_place(self):
        self.take_all()
        self.manager.focus("b")
        self.assertEqual([("path", 1, self.steps("ring", "b", b=(1, 3)))], self.take_all())
        self.manager.next_item()
        self.assertEqual([("path", 1, self.steps("box", "c", c=(2, 3)))], self.take_all())
        self.manager.next_item()
        self.assertEqual([("path", 2, self.steps("in", "d", d=(3, 3)))], self.take_all())
        self.manager.open_layer("pop")
        self.manager.focus("j")
        self.assertEqual([("path", 4, self.steps("pop", "row", "j", j=(1, 1)))], self.take_all())

    def test_steps_are_as_they_were_when_the_path_was_announced(self):
        self.take_all()
        self.manager.focus("b")
        expected = [("path", 1, self.steps("ring", "b", b=(1, 3)))]
        self.manager.set_label("b", "other")
        self.manager.remove("c")
        self.assertEqual(expected, self.manager.queued())
        self.manager.focus("d")
        self.assertEqual([("path", 1, self.steps("ring", "in", "d", d=(2, 2)))], self.manager.queued())
        self.manager.set_label("ring", "renamed")
        self.manager.focus("b")
        self.assertEqual([("path", 1, self.steps("ring", "b", b=(1, 2)))], self.manager.queued())

    def test_labels_and_places_alone_are_not_announced(self):
        self.manager.focus("b")
        self.take_all()
        for word, arguments in (("set_label", ("b", "new")), ("set_label", ("root", "new")), ("hide", ("c",)),
                                ("insert", ("ring", 0, "item", "new", "")), ("announce", ("text", False)),
                                ("bind", ("b", "x", "run x")), ("focus", ("b",)), ("first_item", ()),
                                ("next_item", ()), ("previous_item", ())):
            getattr(self.manager, word)(*arguments)
        self.assertEqual([("message", "text", False)], [row for row in self.take_all() if row[0] == "message"])

    def test_there_and_back_is_not_announced(self):
        self.take_all()
        self.manager.focus_next()
        self.manager.focus_previous()
        self.assertEqual([], self.manager.queued())
        number = self.manager.open_layer("pop")
        self.manager.close_opening(number)
        self.assertEqual([], self.manager.queued())

    def test_messages_between(self):
        self.take_all()
        self.manager.focus("b")
        self.manager.announce("polite", False)
        self.manager.focus("a")
        self.assertEqual([("path", 1, self.steps("ring", "b", b=(1, 3))), ("message", "polite", False),
                          ("path", 2, self.steps("a"))], self.manager.queued())
        self.assertIsNone(self.manager.announce("loud", True))
        self.assertEqual([("message", "loud", True)], self.manager.queued())
        self.manager.focus("b")
        self.assertEqual([("message", "loud", True), ("path", 1, self.steps("ring", "b", b=(1, 3)))],
                         self.manager.queued())

    def test_the_40th_and_the_41st_message(self):
        for number in range(40):
            self.manager.announce(f"m{number}", number < 20)
        self.assertEqual(41, len(self.manager.queued()))
        for is_assertive in (False, True):
            self.assert_refused("too many queued messages", self.manager.announce, "more", is_assertive)
        self.manager.take()
        self.manager.announce("more", True)
        self.assertEqual([("message", f"m{number}", True) for number in range(1, 20)] + [("message", "more", True)]
                         + [("path", 0, self.steps("root", "a"))], self.manager.queued())

    def test_the_kind_of_a_node_that_comes_back(self):
        manager = self.manager_of('  item a ""')
        manager.take()
        manager.remove("a")
        manager.insert("root", 0, "item", "a", "again")
        self.assertEqual([], manager.queued())
        manager.remove("a")
        self.assertEqual(("path", 1, ()), manager.take())
        manager.insert("root", 0, "item", "a", "again")
        self.assertEqual(("path", 0, (("a", "item", "again", 0, 0),)), manager.take())


if __name__ == "__main__":
    unittest.main()
