"""The interface: what stands in which file, with its arguments."""

import ast
import pathlib
import unittest

FOLDER = pathlib.Path(__file__).resolve().parent.parent / "keyfocus"
FUNCTIONS = {
    "tree": ("new_tree(label)",),
    "outlines": ("parse_outline(text)", "write_outline(tree)"),
    "focusable": ("layer_of(tree, name)", "between(tree, name)", "is_focusable(tree, name)",
                  "focusable_items(tree, layer)"),
    "taborder": ("composite_of(tree, name)", "outer_composites(tree)", "members(tree, composite)",
                 "tab_stops(tree, layer)", "stop_of(tree, item)", "place_of(tree, item)"),
    "composites": ("moved(tree, item, movement)", "found_by(tree, item, text)"),
    "recovery": ("replacement(before, item, top, allowed)",),
    "matching": ("match_on(keys, path, strokes)", "is_near(keys, node, strokes)"),
    "routes": ("route_within(tree, start, target)",),
    "keyhelp": ("live_bindings(manager)", "hidden_bindings(manager)", "live_defaults(manager)",
                "meaning(manager, text)", "next_strokes(manager)", "help_text(manager)"),
    "treediff": ("differences(one, other)", "edits(one, other)", "edited(tree, deeds)"),
    "deeds": ("tree_deeds(deeds)", "played(outline, deeds)", "openings_of(deeds)", "done(manager, deed)"),
    "scripts": ("read_script(text)", "write_script(deeds)", "is_deed(thing)"),
    "report": ("report(manager)",),
    "syntax": ("is_name(thing)", "is_label(thing)", "quoted(label)", "unquoted(text)"),
    "keystrokes": ("keystroke(text)", "key_sequence(text)", "is_prefix(one, two)", "shown(strokes)"),
    "commands": ("command_of(text)",),
}
METHODS = {
    ("tree", "Tree"): (
        "has(self, name)", "kind(self, name)", "label(self, name)", "is_visible(self, name)",
        "is_enabled(self, name)", "depth(self, name)", "parent(self, name)", "children(self, name)",
        "ancestors(self, name)", "subtree(self, name)", "names(self)", "infos(self)", "copy(self)",
        "insert(self, parent, index, kind, name, label)", "move(self, name, parent, index)",
        "set_label(self, name, label)", "remove(self, name)", "set_flag(self, name, flag, value)",
    ),
    ("bindings", "Bindings"): (
        "__init__(self)", "bind(self, node, strokes, command)", "unbind(self, node, strokes)", "of(self, node)",
        "is_bound(self, node, strokes)", "drop(self, names)", "match(self, node, strokes)", "count(self)",
    ),
    ("announcing", "Announcements"): (
        "__init__(self)", "tell(self, names, steps)", "message(self, text, assertive)", "queue(self)", "take(self)",
    ),
    ("announcing", "Tracker"): ("__init__(self)", "apply(self, announcement)", "path(self)"),
    ("manager", "Manager"): (
        "__init__(self, outline)", "nodes(self)", "outline(self)", "node(self, name)", "children(self, name)",
        "ancestors(self, name)", "insert(self, parent, index, kind, name, label)", "move(self, name, parent, index)",
        "set_label(self, name, label)", "remove(self, name)", "show(self, name)", "hide(self, name)",
        "enable(self, name)", "disable(self, name)", "focusable_items(self, layer)", "tab_stops(self, layer)",
        "current_item(self, composite)", "layer_item(self, layer)", "focused(self)", "focus_path(self)",
        "open_layers(self)", "focus_next(self)", "focus_previous(self)", "next_item(self)", "previous_item(self)",
        "first_item(self)", "last_item(self)", "typeahead(self, text)", "focus(self, name)",
        "open_layer(self, layer)", "close_layer(self, layer)", "close_opening(self, number)",
        "is_closed(self, number)", "bind(self, node, sequence, command)", "unbind(self, node, sequence)",
        "bindings(self, node)", "pending(self)", "press(self, text)", "shadowing(self, node, sequence)",
        "execute(self, command)", "announce(self, text, assertive)", "queued(self)", "take(self)",
        "shortest_route(self, name)",
    ),
    ("deeds", "Session"): ("__init__(self, outline)", "do(self, deed)", "deeds(self)", "undo(self)"),
}


def statements(module):
    """The statements of a module of the package."""
    return ast.parse((FOLDER / (module + ".py")).read_text(encoding="utf-8")).body


def heads(body):
    """The names and arguments of the functions or methods that are defined in a body."""
    return [f"{node.name}({ast.unparse(node.args)})" for node in body if isinstance(node, ast.FunctionDef)]


class InterfaceTest(unittest.TestCase):
    def test_functions_stand_in_their_files(self):
        for module, expected in FUNCTIONS.items():
            defined = heads(statements(module))
            for head in expected:
                self.assertIn(head, defined, module)

    def test_methods_stand_in_their_classes(self):
        for (module, name), expected in METHODS.items():
            classes = [node for node in statements(module) if isinstance(node, ast.ClassDef) and node.name == name]
            self.assertEqual(1, len(classes), name)
            defined = heads(classes[0].body)
            for head in expected:
                self.assertIn(head, defined, name)


if __name__ == "__main__":
    unittest.main()
