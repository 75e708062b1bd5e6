"""Points 18 and 19 at a manager: what becomes of current items when the tree changes."""

import unittest

from managers import ManagerCase

SAMPLE = (
    '  item a ""',
    '  circular ring ""',
    '    item b ""',
    '    container one ""',
    '      item c ""',
    '      item d ""',
    '      item e ""',
    '    container two ""',
    '      item f ""',
    '  container box ""',
    '    item g ""',
    '    item h ""',
    '    item i ""',
    '  linear bar ""',
    '    item j ""',
    '    item k ""',
    '  layer pop ""',
    '    item l ""',
    '    container in ""',
    '      item m ""',
    '      item n ""',
    '    linear row ""',
    '      item o ""',
    '      item p ""',
)


class SampleCase(ManagerCase):
    def setUp(self):
        self.manager = self.manager_of(*SAMPLE)

    def at(self, *names):
        """A new manager, of which some items got the focus one after another."""
        manager = self.manager_of(*SAMPLE)
        for name in names:
            manager.focus(name)
        return manager


class LayerItemTest(SampleCase):
    def lost(self, item, *calls):
        """The focused item behind some calls, and the path, if an item had the focus before."""
        manager = self.at(item)
        for word, *arguments in calls:
            getattr(manager, word)(*arguments)
        return manager.focused()

    def test_each_way_to_lose_an_item(self):
        for call in (("remove", "h"), ("hide", "h"), ("disable", "h"), ("move", "h", "pop", 0)):
            self.assertEqual("i", self.lost("h", call), call)
            self.assertEqual("g", self.lost("h", ("hide", "i"), call), call)
            self.assertEqual("j", self.lost("h", ("hide", "i"), ("hide", "g"), call), call)
            self.assertEqual("f", self.lost("h", ("hide", "i"), ("hide", "g"), ("hide", "bar"), call), call)

    def test_with_an_ancestor(self):
        for call in (("remove", "box"), ("hide", "box"), ("disable", "box"), ("move", "box", "pop", 2)):
            for item in "ghi":
                self.assertEqual("j", self.lost(item, call), call)
                self.assertEqual("f", self.lost(item, ("remove", "bar"), call), call)
        for call in (("remove", "ring"), ("hide", "ring"), ("disable", "ring"), ("move", "ring", "pop", 0)):
            self.assertEqual("g", self.lost("d", call), call)
            self.assertEqual("a", self.lost("d", ("hide", "box"), ("disable", "bar"), call), call)

    def test_none_is_left(self):
        calls = [("hide", name) for name in ("a", "ring", "box", "bar")]
        self.assertIsNone(self.lost("h", *calls))
        self.assertEqual("g", self.lost("h", *calls, ("show", "box")))
        self.assertEqual("a", self.lost("h", *calls, ("show", "a"), ("show", "box")))
        self.assertEqual("new", self.lost("h", *calls, ("insert", "root", 3, "item", "new", "")))

    def test_it_stays_where_it_still_is_focusable(self):
        for call in (("move", "h", "root", 0), ("move", "h", "ring", 0), ("move", "box", "root", 0),
                     ("move", "box", "bar", 1), ("insert", "box", 1, "item", "new", ""), ("set_label", "h", "x"),
                     ("hide", "g"), ("remove", "i"), ("show", "h"), ("enable", "box"), ("hide", "pop")):
            self.assertEqual("h", self.lost("h", call), call)

    def test_where_it_is_moved_and_cannot_be_seen(self):
        hidden = (("insert", "root", 0, "container", "dark", ""), ("hide", "dark"))
        self.assertEqual("i", self.lost("h", *hidden, ("move", "h", "dark", 0)))
        self.assertEqual("j", self.lost("h", *hidden, ("move", "box", "dark", 0)))
        self.assertEqual("i", self.lost("h", *hidden, ("move", "h", "dark", 0), ("move", "h", "box", 1)))

    def test_the_order_and_the_ancestors_before_the_change_count(self):
        self.assertEqual("c", self.lost("h", ("move", "c", "box", 2), ("remove", "h")))
        self.assertEqual("i", self.lost("h", ("move", "one", "box", 0), ("remove", "h")))
        self.assertEqual("e", self.lost("h", ("move", "one", "box", 0), ("hide", "i"), ("hide", "g"), ("remove", "h")))

    def test_the_path_changes_with_the_ancestors(self):
        manager = self.at("h")
        manager.move("box", "ring", 0)
        self.assertEqual(["root", "ring", "box", "h"], manager.focus_path())
        manager.move("h", "root", 0)
        self.assertEqual(["root", "h"], manager.focus_path())

    def test_the_replacement_becomes_current_in_its_composite(self):
        manager = self.at("k", "h")
        for name in ("g", "i"):
            manager.hide(name)
        manager.remove("h")
        self.assertEqual(("j", "j"), (manager.focused(), manager.current_item("bar")))

    def test_in_every_open_layer(self):
        for word in ("hide", "disable", "remove"):
            manager = self.at("h")
            manager.open_layer("pop")
            manager.focus("m")
            getattr(manager, word)("h")
            self.assertEqual(("m", "i"), (manager.focused(), manager.layer_item("root")))
            getattr(manager, word)("m")
            self.assertEqual("n", manager.focused())
            getattr(manager, word)("in")
            self.assertEqual(("o", "o"), (manager.focused(), manager.current_item("row")))
            for name in ("row", "l"):
                getattr(manager, word)(name)
            self.assertEqual((None, "i"), (manager.focused(), manager.layer_item("root")))

    def test_an_item_of_the_layer_below_comes_into_the_topmost_one(self):
        manager = self.at("h")
        manager.open_layer("pop")
        manager.move("h", "pop", 0)
        self.assertEqual(("l", "i"), (manager.focused(), manager.layer_item("root")))
        manager.move("l", "box", 0)
        self.assertEqual(("m", "i"), (manager.focused(), manager.layer_item("root")))

    def test_a_layer_comes_between(self):
        manager = self.at("h")
        manager.insert("root", 0, "layer", "new", "")
        manager.move("box", "new", 0)
        self.assertEqual("j", manager.focused())
        manager.open_layer("new")
        self.assertEqual("g", manager.focused())
        manager.move("box", "root", 0)
        self.assertEqual((None, "j"), (manager.focused(), manager.layer_item("root")))


class CompositeItemTest(SampleCase):
    def current(self, composite, items, *calls):
        manager = self.at(*items)
        for word, *arguments in calls:
            getattr(manager, word)(*arguments)
        return manager.current_item(composite)

    def test_each_way_to_lose_an_item(self):
        for call in (("remove", "d"), ("hide", "d"), ("disable", "d"), ("move", "d", "root", 0),
                     ("move", "d", "bar", 0), ("move", "d", "pop", 0), ("move", "d", "row", 0)):
            for items in ("d", "da"):
                self.assertEqual("e", self.current("ring", items, call), call)
                self.assertEqual("c", self.current("ring", items, ("hide", "e"), call), call)
                self.assertEqual("f", self.current("ring", items, ("hide", "e"), ("hide", "c"), call), call)
                self.assertEqual("b", self.current("ring", items, ("hide", "e"), ("hide", "c"), ("hide", "f"), call))

    def test_with_an_ancestor(self):
        for call in (("remove", "one"), ("hide", "one"), ("disable", "one"), ("move", "one", "root", 0),
                     ("move", "one", "bar", 0), ("move", "one", "pop", 0)):
            for items in ("d", "da"):
                self.assertEqual("f", self.current("ring", items, call), call)
                self.assertEqual("b", self.current("ring", items, ("remove", "two"), call), call)
                self.assertIsNone(self.current("ring", items, ("remove", "two"), ("remove", "b"), call), call)

    def test_the_focus_and_the_composite_may_go_apart(self):
        manager = self.at("d")
        manager.move("d", "bar", 1)
        self.assertEqual(("d", "e", "d"), (manager.focused(), manager.current_item("ring"), manager.current_item("bar")))
        manager.move("d", "root", 0)
        self.assertEqual(("d", "k", "a"), (manager.focused(), manager.current_item("bar"), manager.tab_stops("root")[1]))

    def test_none_and_then_the_first_one(self):
        for word, back in (("hide", "show"), ("disable", "enable")):
            manager = self.at("d", "a")
            getattr(manager, word)("ring")
            self.assertIsNone(manager.current_item("ring"))
            getattr(manager, back)("ring")
            self.assertEqual("b", manager.current_item("ring"))

    def test_it_stays(self):
        for call in (("move", "d", "two", 0), ("move", "d", "ring", 0), ("move", "ring", "root", 3),
                     ("move", "ring", "box", 0), ("insert", "ring", 0, "item", "new", ""), ("remove", "b"),
                     ("hide", "c"), ("hide", "pop"), ("remove", "pop"), ("set_label", "ring", "x")):
            for items in ("d", "da"):
                self.assertEqual("d", self.current("ring", items, call), call)

    def test_a_new_composite_has_its_first_member(self):
        manager = self.at("h")
        manager.insert("root", 0, "linear", "new", "")
        self.assertIsNone(manager.current_item("new"))
        manager.insert("new", 0, "item", "x", "")
        self.assertEqual("x", manager.current_item("new"))
        manager.insert("new", 0, "item", "y", "")
        self.assertEqual("x", manager.current_item("new"))

    def test_the_focused_item_becomes_a_member(self):
        manager = self.at("h")
        manager.insert("root", 0, "circular", "new", "")
        manager.move("g", "new", 0)
        self.assertEqual(("g", "h"), (manager.current_item("new"), manager.focused()))
        manager.move("h", "new", 1)
        self.assertEqual(("h", "h"), (manager.current_item("new"), manager.focused()))

    def test_it_becomes_a_member_together_with_others(self):
        manager = self.at("k", "h")
        manager.move("box", "bar", 0)
        self.assertEqual(("h", "h"), (manager.current_item("bar"), manager.focused()))
        self.assertEqual(["g", "h", "i", "j", "k"],
                         [manager.first_item()] + [manager.next_item() for _ in range(4)])

    def test_the_current_item_of_a_layer_below_becomes_a_member(self):
        manager = self.at("h")
        manager.open_layer("pop")
        manager.move("h", "bar", 2)
        self.assertEqual(("l", "h", "h"), (manager.focused(), manager.layer_item("root"), manager.current_item("bar")))

    def test_a_composite_within_another_one_and_back(self):
        manager = self.at("k", "d", "h")
        manager.move("bar", "ring", 0)
        self.assertEqual((None, "d"), (manager.current_item("bar"), manager.current_item("ring")))
        self.assertEqual(["a", "ring", "g", "h", "i"], manager.tab_stops("root"))
        manager.move("bar", "root", 0)
        self.assertEqual(("j", "d"), (manager.current_item("bar"), manager.current_item("ring")))

    def test_with_the_focus_within_another_one_and_back(self):
        manager = self.at("d", "k")
        manager.move("bar", "ring", 0)
        self.assertEqual((None, "k", "k"), (manager.current_item("bar"), manager.current_item("ring"), manager.focused()))
        self.assertEqual(["root", "ring", "bar", "k"], manager.focus_path())
        manager.move("bar", "root", 0)
        self.assertEqual(("k", "b", "k"), (manager.current_item("bar"), manager.current_item("ring"), manager.focused()))

    def test_a_composite_around_another_one_is_removed(self):
        manager = self.at("k", "d", "h")
        manager.move("bar", "two", 0)
        manager.move("two", "root", 0)
        self.assertEqual(("j", "d"), (manager.current_item("bar"), manager.current_item("ring")))
        self.assertEqual(["bar", "f", "a", "ring", "g", "h", "i"], manager.tab_stops("root"))

    def test_in_another_layer_and_back(self):
        manager = self.at("k", "h")
        manager.move("bar", "pop", 0)
        self.assertEqual("j", manager.current_item("bar"))
        manager.open_layer("pop")
        self.assertEqual("j", manager.focused())
        manager.focus("k")
        manager.move("bar", "root", 0)
        self.assertEqual(("j", "l", "h"), (manager.current_item("bar"), manager.focused(), manager.layer_item("root")))

    def test_a_layer_that_is_moved_with_its_composites(self):
        manager = self.at("h")
        manager.open_layer("pop")
        manager.focus("p")
        manager.focus("l")
        manager.move("pop", "ring", 0)
        self.assertEqual(("p", "l"), (manager.current_item("row"), manager.focused()))
        manager.close_layer("pop")
        manager.move("pop", "root", 0)
        self.assertEqual("p", manager.current_item("row"))

    def test_a_layer_around_composites_is_inserted(self):
        manager = self.at("k", "h")
        manager.insert("box", 0, "layer", "new", "")
        manager.move("bar", "new", 0)
        self.assertEqual("j", manager.current_item("bar"))
        manager.move("new", "root", 0)
        self.assertEqual("j", manager.current_item("bar"))

    def test_composites_in_layers_that_are_not_open(self):
        for word in ("hide", "disable", "remove"):
            manager = self.at("h")
            manager.open_layer("pop")
            manager.focus("p")
            manager.close_layer("pop")
            self.assertEqual("p", manager.current_item("row"))
            manager.insert("row", 2, "item", "q", "")
            getattr(manager, word)("p")
            self.assertEqual("q", manager.current_item("row"))
            getattr(manager, word)("q")
            self.assertEqual("o", manager.current_item("row"))
            getattr(manager, word)("o")
            self.assertIsNone(manager.current_item("row"))
            self.assertEqual("h", manager.focused())

    def test_a_composite_that_comes_back_under_its_name(self):
        manager = self.at("k", "h")
        manager.remove("bar")
        self.assert_refused("unknown node", manager.current_item, "bar")
        manager.insert("root", 0, "circular", "bar", "")
        self.assertIsNone(manager.current_item("bar"))
        for name in ("x", "k"):
            manager.insert("bar", 0, "item", name, "")
        self.assertEqual("x", manager.current_item("bar"))


if __name__ == "__main__":
    unittest.main()
