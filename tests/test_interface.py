"""The interface: what stands in which file, with its arguments."""

import ast
import pathlib
import unittest

FOLDER = pathlib.Path(__file__).resolve().parent.parent / "keyfocus"
FUNCTIONS = {
    "tree": ("new_tree(label)",),
    "outlines": ("parse_outline(text)", "write_outline(tree)"),
    "focusable": ("layer_of(tree, name)", "between(tree, name)", "is_focusable(tree, name)",
                  "focusable_items(tree, layer)"),
    "taborder": ("composite_of(tree, name)", "outer_composites(tree)", "members(tree, composite)",
                 "tab_stops(tree, layer)", "stop_of(tree, item)", "place_of(tree, item)"),
    "composites": ("moved(tree, item, movement)", "found_by(tree, item, text)"),
    "recovery": ("replacement(before, item, top, allowed)",),
    "matching": ("match_on(keys, path, strokes)", "is_near(keys, node, strokes)"),
}
METHODS = {
    ("tree", "Tree"): (
        "has(self, name)", "kind(self, name)", "label(self, name)", "is_visible(self, name)",
        "is_enabled(self, name)", "depth(self, name)", "parent(self, name)", "children(self, name)",
        "ancestors(self, name)", "subtree(self, name)", "names(self)", "infos(self)", "copy(self)",
        "insert(self, parent, index, kind, name, label)", "move(self, name, parent, index)",
        "set_label(self, name, label)", "remove(self, name)", "set_flag(self, name, flag, value)",
    ),
    ("bindings", "Bindings"): (
        "__init__(self)", "bind(self, node, strokes, command)", "unbind(self, node, strokes)", "of(self, node)",
        "is_bound(self, node, strokes)", "drop(self, names)", "match(self, node, strokes)", "count(self)",
    ),
}


def statements(module):
    """The statements of a module of the package."""
    return ast.parse((FOLDER / (module + ".py")).read_text(encoding="utf-8")).body


def heads(body):
    """The names and arguments of the functions or methods that are defined in a body."""
    return [f"{node.name}({ast.unparse(node.args)})" for node in body if isinstance(node, ast.FunctionDef)]


class InterfaceTest(unittest.TestCase):
    def test_functions_stand_in_their_files(self):
        for module, expected in FUNCTIONS.items():
            defined = heads(statements(module))
            for head in expected:
                self.assertIn(head, defined, module)

    def test_methods_stand_in_their_classes(self):
        for (module, name), expected in METHODS.items():
            classes = [node for node in statements(module) if isinstance(node, ast.ClassDef) and node.name == name]
            self.assertEqual(1, len(classes), name)
            defined = heads(classes[0].body)
            for head in expected:
                self.assertIn(head, defined, name)


if __name__ == "__main__":
    unittest.main()
