"""Points 13 and 14, and 26 for places: composites, members, tab stops."""

import unittest

from keyfocus.focusable import focusable_items
from keyfocus.taborder import composite_of, members, outer_composites, place_of, stop_of, tab_stops
from trees import composite_in, focusable_in, layer_in, random_tree, rows_of, told, tree_of

BOTH = ("linear", "circular")
SAMPLE = (
    '  item a ""',
    '  container box ""',
    '    linear bar ""',
    '      item b ""',
    '      circular ring ""',
    '        item c ""',
    '        layer one ""',
    '          circular two ""',
    '            container in ""',
    '              item d ""',
    '            item e ""',
    '          item f ""',
    '      item g ""',
    '    item h ""',
    '  circular none ""',
    '    container empty ""',
    '  circular last ""',
    '    item i ""',
)


def sample():
    return tree_of(*SAMPLE)


class CompositeTest(unittest.TestCase):
    def test_composites(self):
        tree = sample()
        for name, composite in (
            ("root", None), ("a", None), ("box", None), ("bar", None), ("b", "bar"), ("ring", "bar"), ("c", "bar"),
            ("one", "bar"), ("two", None), ("in", "two"), ("d", "two"), ("e", "two"), ("f", None), ("g", "bar"),
            ("h", None), ("none", None), ("empty", "none"), ("last", None), ("i", "last"),
        ):
            self.assertEqual(composite, composite_of(tree, name), name)

    def test_outer_composites(self):
        self.assertEqual(["bar", "two", "none", "last"], outer_composites(sample()))
        self.assertEqual([], outer_composites(tree_of('  item a ""', '  container b ""', '  layer c ""')))
        self.assertEqual([], outer_composites(tree_of()))

    def test_composites_within_composites(self):
        for outer in BOTH:
            for inner in BOTH:
                tree = tree_of(f'  {outer} a ""', '    container b ""', f'      {inner} c ""', '        item d ""')
                self.assertEqual("a", composite_of(tree, "d"))
                self.assertEqual("a", composite_of(tree, "c"))
                self.assertEqual(["a"], outer_composites(tree))
                self.assertEqual(["d"], members(tree, "a"))
                self.assertEqual([], members(tree, "c"))

    def test_a_hidden_composite_is_one_all_the_same(self):
        tree = tree_of('  linear a "" hidden', '    item b ""', '    circular c "" disabled', '      item d ""')
        self.assertEqual(["a"], outer_composites(tree))
        self.assertEqual("a", composite_of(tree, "b"))
        self.assertEqual("a", composite_of(tree, "d"))
        self.assertEqual([], members(tree, "a"))


class MembersTest(unittest.TestCase):
    def test_members(self):
        tree = sample()
        for composite, items in (("bar", ["b", "c", "g"]), ("ring", []), ("two", ["d", "e"]), ("none", []),
                                 ("last", ["i"])):
            self.assertEqual(items, members(tree, composite))

    def test_only_focusable_items_are_members(self):
        for name, bar, two in (("b", ["c", "g"], ["d", "e"]), ("g", ["b", "c"], ["d", "e"]),
                               ("ring", ["b", "g"], ["d", "e"]), ("bar", [], ["d", "e"]),
                               ("box", [], ["d", "e"]), ("one", ["b", "c", "g"], ["d", "e"]),
                               ("in", ["b", "c", "g"], ["e"]), ("two", ["b", "c", "g"], [])):
            for flag in ("visible", "enabled"):
                tree = sample()
                tree.set_flag(name, flag, False)
                self.assertEqual(bar, members(tree, "bar"), name)
                self.assertEqual(two, members(tree, "two"), name)

    def test_places(self):
        tree = sample()
        places = {"b": (1, 3), "c": (2, 3), "g": (3, 3), "d": (1, 2), "e": (2, 2), "i": (1, 1)}
        for name in tree.names():
            self.assertEqual(places.get(name, (0, 0)), place_of(tree, name), name)
            self.assertIs(tuple, type(place_of(tree, name)))

    def test_places_of_items_that_are_not_focusable(self):
        tree = sample()
        tree.set_flag("c", "visible", False)
        self.assertEqual([(1, 2), (0, 0), (2, 2)], [place_of(tree, name) for name in "bcg"])
        tree.set_flag("bar", "enabled", False)
        self.assertEqual([(0, 0), (0, 0), (0, 0)], [place_of(tree, name) for name in "bcg"])


class TabStopsTest(unittest.TestCase):
    def test_tab_stops(self):
        tree = sample()
        self.assertEqual(["a", "bar", "h", "last"], tab_stops(tree, "root"))
        self.assertEqual(["two", "f"], tab_stops(tree, "one"))
        self.assertEqual([], tab_stops(tree_of(), "root"))

    def test_a_composite_without_a_member_is_none(self):
        for hidden in (("b", "ring", "g"), ("bar",)):
            tree = sample()
            for name in hidden:
                tree.set_flag(name, "visible", False)
            self.assertEqual(["a", "h", "last"], tab_stops(tree, "root"))
            self.assertEqual(["two", "f"], tab_stops(tree, "one"))

    def test_a_composite_is_at_the_position_of_its_first_member(self):
        tree = tree_of('  linear bar ""', '    item a "" hidden', '    layer one ""', '      item b ""',
                       '    item c ""', '  item d ""')
        self.assertEqual(["bar", "d"], tab_stops(tree, "root"))
        tree.move("d", "root", 0)
        self.assertEqual(["d", "bar"], tab_stops(tree, "root"))
        self.assertEqual(["b"], tab_stops(tree, "one"))

    def test_the_tab_stops_of_items(self):
        tree = sample()
        for item, stop in (("a", "a"), ("b", "bar"), ("c", "bar"), ("d", "two"), ("e", "two"), ("f", "f"),
                           ("g", "bar"), ("h", "h"), ("i", "last")):
            self.assertEqual(stop, stop_of(tree, item))

    def test_hidden_items_and_layers(self):
        tree = sample()
        tree.set_flag("a", "visible", False)
        tree.set_flag("h", "enabled", False)
        tree.set_flag("one", "visible", False)
        self.assertEqual(["bar", "last"], tab_stops(tree, "root"))
        self.assertEqual(["two", "f"], tab_stops(tree, "one"))


class ManyTreesTest(unittest.TestCase):
    def test_many_trees(self):
        for seed in range(60):
            tree = random_tree(seed, 30, 0.05)
            rows = rows_of(tree)
            composites = {name: composite_in(rows, name) for name in tree.names()}
            outer = [name for name in tree.names() if tree.kind(name) in BOTH and composites[name] is None]
            self.assertEqual(outer, outer_composites(tree))
            for name in tree.names():
                self.assertEqual(composites[name], composite_of(tree, name))
                if tree.kind(name) == "layer":
                    self.assert_stops(tree, rows, composites, name)
                if tree.kind(name) in BOTH:
                    self.assert_members(tree, rows, composites, name)

    def assert_stops(self, tree, rows, composites, layer):
        items = focusable_in(rows, layer)
        stops = [composites[item] or item for item in items]
        self.assertEqual(list(dict.fromkeys(stops)), tab_stops(tree, layer))
        self.assertEqual(stops, [stop_of(tree, item) for item in items])

    def assert_members(self, tree, rows, composites, composite):
        items = focusable_in(rows, layer_in(rows, composite))
        row = [item for item in items if composites[item] == composite]
        self.assertEqual(row, members(tree, composite))
        self.assertEqual([(at, len(row)) for at in range(1, len(row) + 1)], [place_of(tree, item) for item in row])

    def test_the_tree_stays_as_it_was(self):
        tree = sample()
        before = told(tree)
        for name in tree.names():
            composite_of(tree, name)
            place_of(tree, name)
        for item in focusable_items(tree, "root"):
            stop_of(tree, item)
        outer_composites(tree).clear()
        members(tree, "bar").append("x")
        tab_stops(tree, "root").reverse()
        self.assertEqual(before, told(tree))
        self.assertEqual(["b", "c", "g"], members(tree, "bar"))
        self.assertEqual(["a", "bar", "h", "last"], tab_stops(tree, "root"))
        self.assertEqual(["bar", "two", "none", "last"], outer_composites(tree))


if __name__ == "__main__":
    unittest.main()
