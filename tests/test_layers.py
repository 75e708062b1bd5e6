"""Points 2, 16, 17 and 19: the stack of open layers, and the openings."""

import random
import unittest

from keyfocus.manager import Manager
from keyfocus.outlines import write_outline
from managers import ManagerCase, outline_of, state
from trees import KINDS, random_tree

SAMPLE = (
    '  item a ""',
    '  linear bar ""',
    '    item b ""',
    '    item c ""',
    '  layer one ""',
    '    item d ""',
    '    circular ring ""',
    '      item e ""',
    '      item f ""',
    '    layer two ""',
    '      circular row ""',
    '        item g ""',
    '        item h ""',
    '      item i ""',
    '  layer void ""',
    '    container box ""',
    '  layer l4 ""',
    '    item j ""',
    '  layer l5 ""',
    '    item k ""',
    '  layer l6 ""',
    '    item l ""',
)


class LayersCase(ManagerCase):
    def setUp(self):
        self.manager = self.manager_of(*SAMPLE)

    def assert_layers(self, *layers):
        self.assertEqual(["root", *layers], self.manager.open_layers())


class OpenTest(LayersCase):
    def test_only_the_root_at_first(self):
        self.assert_layers()
        self.assertEqual("a", self.manager.focused())
        for number in (-1, 0, 1, 2):
            self.assertIs(True, self.manager.is_closed(number))
            self.assertIs(False, self.manager.close_opening(number))

    def test_a_layer_is_put_on_top(self):
        self.assertEqual(1, self.manager.open_layer("one"))
        self.assert_layers("one")
        self.assertEqual("d", self.manager.focused())
        self.assertEqual(2, self.manager.open_layer("l4"))
        self.assert_layers("one", "l4")
        self.assertEqual(["l4", "j"], self.manager.focus_path())
        self.assertEqual((False, False, True),
                         tuple(self.manager.is_closed(number) for number in (1, 2, 3)))

    def test_the_entry_item_of_the_first_tab_stop(self):
        self.manager.open_layer("two")
        self.assertEqual("g", self.manager.focused())
        self.manager.focus("h")
        self.manager.focus("i")
        self.manager.close_layer("two")
        self.manager.open_layer("two")
        self.assertEqual("h", self.manager.focused())

    def test_an_inner_layer_may_be_opened_first(self):
        self.manager.open_layer("two")
        self.manager.open_layer("one")
        self.assert_layers("two", "one")
        self.assertEqual(("g", "d"), (self.manager.layer_item("two"), self.manager.layer_item("one")))

    def test_an_empty_layer(self):
        self.assertEqual(1, self.manager.open_layer("void"))
        self.assertEqual((None, None, ["void"]), (self.manager.focused(), self.manager.layer_item("void"),
                                                 self.manager.focus_path()))
        self.assertIsNone(self.manager.focus_next())
        self.assertIsNone(self.manager.typeahead("a"))
        self.assertEqual(2, self.manager.open_layer("one"))
        self.assertEqual(["one"], self.manager.close_layer("one"))
        self.assertIsNone(self.manager.focused())
        self.manager.insert("box", 0, "item", "new", "")
        self.assertEqual("new", self.manager.focused())
        self.manager.hide("box")
        self.assertIsNone(self.manager.focused())
        self.assertEqual(["void"], self.manager.close_layer("void"))
        self.assertEqual("a", self.manager.focused())

    def test_the_sixth_and_the_seventh_layer(self):
        for number, layer in enumerate(("one", "two", "void", "l4", "l5"), 1):
            self.assertEqual(number, self.manager.open_layer(layer))
        self.assertEqual(6, len(self.manager.open_layers()))
        self.assert_refused("too many open layers", self.manager.open_layer, "l6")
        self.assertIs(True, self.manager.is_closed(6))
        self.manager.close_layer("l5")
        self.assertEqual(6, self.manager.open_layer("l6"))
        self.assert_refused("too many open layers", self.manager.open_layer, "l5")

    def test_errors(self):
        self.assert_refused("unknown node", self.manager.open_layer, "nobody")
        for name in ("a", "bar", "ring", "box"):
            self.assert_refused("not a layer", self.manager.open_layer, name)
        self.assert_refused("layer is already open", self.manager.open_layer, "root")
        self.manager.open_layer("one")
        self.assert_refused("layer is already open", self.manager.open_layer, "one")

    def test_errors_with_six_open_layers(self):
        for layer in ("one", "two", "void", "l4", "l5"):
            self.manager.open_layer(layer)
        self.assert_refused("unknown node", self.manager.open_layer, "nobody")
        self.assert_refused("not a layer", self.manager.open_layer, "a")
        for layer in ("root", "one", "l5"):
            self.assert_refused("layer is already open", self.manager.open_layer, layer)

    def test_a_call_with_an_error_takes_no_number(self):
        self.assertEqual(1, self.manager.open_layer("one"))
        self.assert_refused("layer is already open", self.manager.open_layer, "one")
        self.assert_refused("not a layer", self.manager.open_layer, "a")
        self.assertEqual(2, self.manager.open_layer("l4"))


class CloseTest(LayersCase):
    def open_all(self, *layers):
        return [self.manager.open_layer(layer) for layer in layers]

    def test_the_topmost_layer(self):
        self.open_all("one", "l4")
        self.assertEqual(["l4"], self.manager.close_layer("l4"))
        self.assert_layers("one")
        self.assertEqual((False, True), (self.manager.is_closed(1), self.manager.is_closed(2)))

    def test_a_layer_with_all_above_it(self):
        self.open_all("one", "l4", "l5", "two")
        self.assertEqual(["two", "l5", "l4"], self.manager.close_layer("l4"))
        self.assert_layers("one")
        self.assertEqual([False, True, True, True], [self.manager.is_closed(number) for number in (1, 2, 3, 4)])

    def test_errors(self):
        self.open_all("one")
        self.assert_refused("unknown node", self.manager.close_layer, "nobody")
        for name in ("a", "l4", "two", "bar"):
            self.assert_refused("layer is not open", self.manager.close_layer, name)
        self.assert_refused("not allowed for the root layer", self.manager.close_layer, "root")
        self.manager.close_layer("one")
        self.assert_refused("layer is not open", self.manager.close_layer, "one")
        self.assert_refused("not allowed for the root layer", self.manager.close_layer, "root")

    def test_openings_are_closed_once(self):
        self.open_all("one", "l4", "l5")
        self.assertIs(True, self.manager.close_opening(2))
        self.assert_layers("one")
        for number in (2, 3, 4, 0, -1):
            self.assertIs(False, self.manager.close_opening(number))
        self.assertIs(True, self.manager.close_opening(1))
        self.assert_layers()

    def test_a_layer_that_is_opened_again_under_a_new_number(self):
        self.open_all("one", "l4")
        self.manager.close_layer("one")
        self.assertEqual([3, 4], self.open_all("one", "l4"))
        self.assertEqual([True, True, False, False], [self.manager.is_closed(number) for number in (1, 2, 3, 4)])
        self.assertIs(False, self.manager.close_opening(1))
        self.assert_layers("one", "l4")
        self.assertIs(True, self.manager.close_opening(3))
        self.assert_layers()

    def test_the_focus_returns(self):
        self.manager.focus("c")
        self.open_all("one")
        self.manager.focus("f")
        self.open_all("two")
        self.manager.focus("i")
        self.manager.close_layer("two")
        self.assertEqual("f", self.manager.focused())
        self.manager.close_layer("one")
        self.assertEqual("c", self.manager.focused())
        self.open_all("one")
        self.assertEqual(("d", "f"), (self.manager.focused(), self.manager.current_item("ring")))


class ChangedTest(LayersCase):
    def setUp(self):
        super().setUp()
        for layer in ("one", "two", "l4"):
            self.manager.open_layer(layer)

    def test_hidden_and_disabled_layers_stay_open(self):
        before = self.manager.focusable_items("two")
        for layer in ("two", "one", "l4"):
            self.manager.hide(layer)
            self.manager.disable(layer)
        self.assert_layers("one", "two", "l4")
        self.assertEqual(("j", "d", "g"), tuple(self.manager.layer_item(layer) for layer in ("l4", "one", "two")))
        self.assertEqual(before, self.manager.focusable_items("two"))
        self.manager.close_layer("l4")
        self.assertEqual("h", self.manager.next_item())
        self.assertEqual(4, self.manager.open_layer("l4"))

    def test_moved_layers_stay_open(self):
        self.manager.focus("j")
        self.manager.move("two", "l4", 0)
        self.manager.move("l4", "bar", 0)
        self.assert_layers("one", "two", "l4")
        self.assertEqual(("j", "g"), (self.manager.focused(), self.manager.layer_item("two")))
        self.assertEqual(["b", "c"], self.manager.focusable_items("root")[1:])
        self.assertEqual("b", self.manager.current_item("bar"))

    def test_the_removal_of_the_topmost_layer(self):
        self.manager.remove("l4")
        self.assert_layers("one", "two")
        self.assertEqual("g", self.manager.focused())
        self.assertIs(True, self.manager.is_closed(3))

    def test_the_removal_of_a_layer_in_the_middle(self):
        self.assertEqual(5, self.manager.remove("two"))
        self.assert_layers("one")
        self.assertEqual([False, True, True], [self.manager.is_closed(number) for number in (1, 2, 3)])
        self.assertEqual("d", self.manager.focused())
        self.assertEqual(4, self.manager.open_layer("l4"))

    def test_the_removal_of_the_lowest_layer_and_those_in_it(self):
        self.manager.remove("one")
        self.assert_layers()
        self.assertEqual("a", self.manager.focused())
        self.assertEqual([True] * 3, [self.manager.is_closed(number) for number in (1, 2, 3)])
        for name in ("one", "two"):
            self.assert_refused("unknown node", self.manager.close_layer, name)
        self.assert_refused("layer is not open", self.manager.close_layer, "l4")
        self.assertIs(False, self.manager.close_opening(3))

    def test_a_removed_layer_that_was_inserted_again(self):
        self.manager.remove("l4")
        self.manager.insert("root", 0, "layer", "l4", "")
        self.assert_layers("one", "two")
        self.assertEqual(4, self.manager.open_layer("l4"))
        self.assertIsNone(self.manager.focused())

    def test_a_closed_layer_is_removed(self):
        self.manager.remove("l5")
        self.assert_layers("one", "two", "l4")

    def test_a_layer_below_loses_its_current_item(self):
        self.manager.hide("d")
        self.assertEqual(("e", "j"), (self.manager.layer_item("one"), self.manager.focused()))
        self.manager.disable("ring")
        self.assertIsNone(self.manager.layer_item("one"))
        self.manager.show("d")
        self.assertEqual("d", self.manager.layer_item("one"))
        self.manager.remove("a")
        self.assertEqual(("b", "b"), (self.manager.layer_item("root"), self.manager.current_item("bar")))
        self.manager.remove("bar")
        self.assertIsNone(self.manager.layer_item("root"))
        self.manager.remove("one")
        self.assertEqual((None, ["root"]), (self.manager.focused(), self.manager.focus_path()))
        self.manager.insert("root", 0, "item", "new", "")
        self.assertEqual("new", self.manager.focused())

    def test_an_item_that_goes_to_another_layer(self):
        self.manager.move("d", "l4", 0)
        self.assertEqual(("e", "j"), (self.manager.layer_item("one"), self.manager.focused()))
        self.assertEqual(["d", "j"], self.manager.tab_stops("l4"))
        self.manager.move("j", "root", 0)
        self.assertEqual(("d", "a"), (self.manager.focused(), self.manager.layer_item("root")))


class AsIfNeverOpenedTest(ManagerCase):
    """Point 2: what happens while a layer is open leaves the layers below as if only the tree had changed."""

    def test_many_trees(self):
        opened = 0
        for seed in range(60):
            chance = random.Random(seed)
            outline = write_outline(random_tree(seed, 16, 0.05, KINDS + ("item", "item", "layer")))
            one, other = Manager(outline), Manager(outline)
            for manager in (one, other):
                for item in manager.focusable_items("root")[-3:]:
                    manager.focus(item)
            layers = [row[0] for row in one.nodes()[1:] if row[1] == "layer"]
            if layers:
                layer = chance.choice(layers)
                self.live(chance, one, other, layer, one.open_layer(layer))
                opened += 1
        self.assertGreater(opened, 40)

    def live(self, chance, one, other, layer, number):
        """Calls that reach the upper layers go to one manager, changes of the tree to both."""
        for _ in range(20):
            self.edit(chance, one, other)
            if one.is_closed(number):
                break
            self.roam(chance, one, number)
            self.assert_below(one, other, layer)
        one.close_opening(number)
        self.assertEqual(other.focus_path(), one.focus_path())

    def edit(self, chance, one, other):
        names = [row[0] for row in one.nodes()[1:]]
        word = chance.choice(("hide", "show", "disable", "enable", "remove", "move", "move"))
        if names and word != "move":
            name = chance.choice(names)
            self.assertEqual(getattr(one, word)(name), getattr(other, word)(name))
        elif names:
            parents = [row[0] for row in one.nodes() if row[1] != "item"]
            name, parent = chance.choice(names), chance.choice(parents)
            if parent != name and name not in one.ancestors(parent) and one.node(parent)[5] < 3:
                one.move(name, parent, 0)
                other.move(name, parent, 0)

    def roam(self, chance, manager, number):
        for word in ("focus_next", "next_item", "last_item", "focus_previous"):
            getattr(manager, word)()
        items = manager.focusable_items(manager.open_layers()[-1])
        if items:
            manager.focus(chance.choice(items))
        closed = [row[0] for row in manager.nodes() if row[1] == "layer" and row[0] not in manager.open_layers()]
        if closed and len(manager.open_layers()) < 6 and chance.random() < 0.5:
            manager.open_layer(chance.choice(closed))
        elif len(manager.open_layers()) > 2:
            manager.close_layer(manager.open_layers()[-1])
        self.assertIs(False, manager.is_closed(number))

    def assert_below(self, one, other, layer):
        self.assertEqual(other.layer_item("root"), one.layer_item("root"))
        for name, kind, *_ in one.nodes():
            ancestors = one.ancestors(name)
            owner = [up for up in ancestors if one.node(up)[1] == "layer"][:1]
            if kind in ("linear", "circular") and owner == ["root"]:
                self.assertEqual(other.current_item(name), one.current_item(name))
        self.assertIn(layer, one.open_layers())


class ListsTest(LayersCase):
    def test_each_list_is_a_list_of_its_own(self):
        manager = Manager(outline_of(*SAMPLE))
        manager.open_layer("one")
        manager.bind("one", "a", "run x")
        before = state(manager)
        calls = (("nodes",), ("children", "root"), ("ancestors", "h"), ("focusable_items", "one"),
                 ("tab_stops", "one"), ("focus_path",), ("open_layers",), ("bindings", "one"), ("queued",),
                 ("shortest_route", "e"))
        for word, *arguments in calls:
            found = getattr(manager, word)(*arguments)
            self.assertIs(list, type(found), word)
            copy = list(found)
            found.reverse()
            found.append("more")
            self.assertEqual(copy, getattr(manager, word)(*arguments), word)
            found.clear()
            self.assertEqual(copy, getattr(manager, word)(*arguments), word)
        self.assertEqual(before, state(manager))
        found = manager.close_layer("one")
        found.append("root")
        self.assert_layers()


if __name__ == "__main__":
    unittest.main()
