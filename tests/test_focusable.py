"""Point 12: layers, what stands between a node and its layer, and focusable items."""

import unittest

from keyfocus.focusable import between, focusable_items, is_focusable, layer_of
from trees import between_in, focusable_in, layer_in, random_tree, rows_of, told, tree_of

NESTED = (
    '  item a "A"',
    '  container box "Box"',
    '    item b "B"',
    '    layer one "One"',
    '      item c "C"',
    '      circular ring "Ring"',
    '        container in "In"',
    '          item d "D"',
    '        layer two "Two"',
    '          item e "E"',
    '          linear row "Row"',
    '            item f "F"',
    '        item g "G"',
    '  item h "H"',
)
ITEMS = {"root": ["a", "b", "h"], "one": ["c", "d", "g"], "two": ["e", "f"]}


def nested():
    return tree_of(*NESTED)


class LayerTest(unittest.TestCase):
    def test_layers(self):
        tree = nested()
        for layer, names in (("root", ["root", "a", "box", "b", "one", "h"]),
                             ("one", ["c", "ring", "in", "d", "two", "g"]),
                             ("two", ["e", "row", "f"])):
            for name in names:
                self.assertEqual(layer, layer_of(tree, name), name)

    def test_between(self):
        tree = nested()
        for name, nodes in (("root", []), ("a", []), ("box", []), ("b", ["box"]), ("one", ["box"]), ("c", []),
                            ("ring", []), ("in", ["ring"]), ("d", ["in", "ring"]), ("two", ["ring"]), ("e", []),
                            ("row", []), ("f", ["row"]), ("g", ["ring"]), ("h", [])):
            self.assertEqual(nodes, between(tree, name), name)

    def test_many_nodes_between(self):
        tree = tree_of(*["  " * depth + f'container c{depth} ""' for depth in range(1, 8)],
                       "  " * 8 + 'item a ""')
        self.assertEqual(["c7", "c6", "c5", "c4", "c3", "c2", "c1"], between(tree, "a"))
        self.assertEqual("root", layer_of(tree, "a"))


class FocusableTest(unittest.TestCase):
    def assert_focusable(self, tree, expected):
        """Exactly some items are focusable, for each layer."""
        everything = [item for items in expected.values() for item in items]
        for layer, items in expected.items():
            self.assertEqual(items, focusable_items(tree, layer), layer)
        for name in tree.names():
            self.assertIs(name in everything, is_focusable(tree, name), name)

    def without(self, *gone):
        return {layer: [item for item in items if item not in gone] for layer, items in ITEMS.items()}

    def test_items_of_each_layer(self):
        self.assert_focusable(nested(), ITEMS)

    def test_items_containers_and_composites_that_are_hidden_or_disabled(self):
        for name, gone in (("a", "a"), ("b", "b"), ("d", "d"), ("f", "f"), ("box", "b"), ("in", "d"),
                           ("ring", "dg"), ("row", "f")):
            for flags in (("visible",), ("enabled",), ("visible", "enabled")):
                tree = nested()
                for flag in flags:
                    tree.set_flag(name, flag, False)
                self.assert_focusable(tree, self.without(*gone))
                for flag in flags:
                    tree.set_flag(name, flag, True)
                self.assert_focusable(tree, ITEMS)

    def test_the_flags_of_layers_make_no_difference(self):
        tree = nested()
        for layer in ("one", "two"):
            for flag in ("visible", "enabled"):
                tree.set_flag(layer, flag, False)
                self.assert_focusable(tree, ITEMS)

    def test_the_flags_above_a_layer_make_no_difference_in_it(self):
        tree = nested()
        tree.set_flag("box", "visible", False)
        self.assertEqual(ITEMS["one"], focusable_items(tree, "one"))
        self.assertIs(False, is_focusable(tree, "b"))
        tree.set_flag("ring", "enabled", False)
        self.assertEqual(["c"], focusable_items(tree, "one"))
        self.assertEqual(ITEMS["two"], focusable_items(tree, "two"))

    def test_only_items_are_focusable(self):
        tree = tree_of('  container a ""', '  linear b ""', '  circular c ""', '  layer d ""', '  item e ""')
        self.assert_focusable(tree, {"root": ["e"], "d": []})

    def test_layers_without_items(self):
        self.assertEqual([], focusable_items(tree_of(), "root"))
        tree = tree_of('  layer a ""', '    layer b ""', '      item c ""', '    item d "" hidden')
        self.assert_focusable(tree, {"root": [], "a": [], "b": ["c"]})

    def test_many_trees(self):
        for seed in range(60):
            tree = random_tree(seed, 30)
            rows = rows_of(tree)
            layers = [name for name in tree.names() if tree.kind(name) == "layer"]
            self.assert_focusable(tree, {layer: focusable_in(rows, layer) for layer in layers})
            for name in tree.names():
                self.assertEqual(layer_in(rows, name), layer_of(tree, name))
                self.assertEqual(between_in(rows, name), between(tree, name))

    def test_the_tree_stays_as_it_was(self):
        tree = nested()
        before = told(tree)
        for name in tree.names():
            layer_of(tree, name)
            is_focusable(tree, name)
            between(tree, name).append("x")
            focusable_items(tree, layer_of(tree, name)).clear()
        self.assertEqual(before, told(tree))
        self.assert_focusable(tree, ITEMS)


if __name__ == "__main__":
    unittest.main()
