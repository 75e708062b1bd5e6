"""Points 9 and 10, and 3 and 4 for trees: nodes, kinds, flags, infos, and the edits."""

import itertools
import random
import unittest

from keyfocus.errors import Refused
from keyfocus.tree import Tree, new_tree
from trees import KINDS, LABELS, Rows, random_tree, rows_of, told

ROOT_ERROR = "not allowed for the root layer"
INSERT_ERRORS = ("unknown node", "an item cannot have children", "index out of range", "tree too deep",
                 "duplicate name", "too many nodes")
MOVE_ERRORS = ("unknown node", ROOT_ERROR, "an item cannot have children", "cannot move a node into itself",
               "index out of range", "tree too deep")


def chain(length):
    """A tree with a chain of containers down to a depth; c1 is a child of the root."""
    tree = new_tree("Root")
    parent = "root"
    for depth in range(1, length + 1):
        tree.insert(parent, 0, "container", f"c{depth}", "")
        parent = f"c{depth}"
    return tree


def filled(tree, many):
    """A tree with items added to the root until it has some number of nodes."""
    for number in range(many - len(tree.names())):
        tree.insert("root", 0, "item", f"f{number}", "")
    return tree


def shop():
    """A tree with nodes of each kind."""
    tree = new_tree("Shop")
    tree.insert("root", 0, "item", "ok", "OK")
    tree.insert("root", 1, "circular", "list", "Fruits")
    tree.insert("list", 0, "item", "apple", "Apple")
    tree.insert("list", 1, "item", "pear", "Pear")
    tree.insert("root", 2, "layer", "dialog", "Pay")
    tree.insert("dialog", 0, "linear", "bar", "Tools")
    tree.insert("dialog", 1, "container", "box", "")
    tree.insert("box", 0, "item", "yes", "Yes")
    return tree


class TreeTest(unittest.TestCase):
    def assert_refused(self, what, tree, word, *arguments):
        """A call raises Refused with a text, and the tree is as before."""
        before = told(tree)
        with self.assertRaises(Refused) as caught:
            getattr(tree, word)(*arguments)
        self.assertEqual(what, caught.exception.what, (word, arguments))
        self.assertEqual(before, told(tree), (word, arguments))

    def assert_as(self, rows, tree):
        """A tree tells the same as rows."""
        names = [row[0] for row in rows.rows]
        self.assertEqual(rows.rows, tree.infos())
        self.assertEqual(names, tree.names())
        for name, kind, label, visible, enabled, depth in rows.rows:
            self.assertIs(True, tree.has(name))
            self.assertEqual((kind, label, depth), (tree.kind(name), tree.label(name), tree.depth(name)))
            self.assertIs(visible, tree.is_visible(name))
            self.assertIs(enabled, tree.is_enabled(name))
            self.assertEqual(rows.children(name), tree.children(name))
            self.assertEqual(rows.subtree(name), tree.subtree(name))
            self.assertEqual(rows.ancestors(name), tree.ancestors(name))
            self.assertEqual(rows.ancestors(name)[0] if depth > 0 else None, tree.parent(name))


class NodesTest(TreeTest):
    def test_a_new_tree_has_the_root_alone(self):
        for label in ("", "Shop", 'a "b" \\'):
            tree = new_tree(label)
            self.assertIsInstance(tree, Tree)
            self.assertEqual([("root", "layer", label, True, True, 0)], tree.infos())
            self.assertEqual(["root"], tree.names())
            self.assertEqual(["root"], tree.subtree("root"))
            self.assertEqual([], tree.children("root"))
            self.assertEqual([], tree.ancestors("root"))
            self.assertIsNone(tree.parent("root"))
            self.assertEqual(0, tree.depth("root"))

    def test_has(self):
        tree = shop()
        for name in ("root", "ok", "list", "yes"):
            self.assertIs(True, tree.has(name))
        for name in ("", "o", "OK", "okk", "fruits", "none"):
            self.assertIs(False, tree.has(name))

    def test_what_a_tree_tells(self):
        tree = shop()
        self.assertEqual(["root", "ok", "list", "apple", "pear", "dialog", "bar", "box", "yes"], tree.names())
        self.assertEqual([
            ("root", "layer", "Shop", True, True, 0),
            ("ok", "item", "OK", True, True, 1),
            ("list", "circular", "Fruits", True, True, 1),
            ("apple", "item", "Apple", True, True, 2),
            ("pear", "item", "Pear", True, True, 2),
            ("dialog", "layer", "Pay", True, True, 1),
            ("bar", "linear", "Tools", True, True, 2),
            ("box", "container", "", True, True, 2),
            ("yes", "item", "Yes", True, True, 3),
        ], tree.infos())
        self.assertEqual(["ok", "list", "dialog"], tree.children("root"))
        self.assertEqual(["bar", "box"], tree.children("dialog"))
        self.assertEqual([], tree.children("yes"))
        self.assertEqual(["box", "dialog", "root"], tree.ancestors("yes"))
        self.assertEqual(["dialog", "bar", "box", "yes"], tree.subtree("dialog"))
        self.assertEqual(["pear"], tree.subtree("pear"))
        self.assertEqual(("box", "root", None), (tree.parent("yes"), tree.parent("ok"), tree.parent("root")))
        self.assertEqual(("linear", "Tools", 2), (tree.kind("bar"), tree.label("bar"), tree.depth("bar")))
        for info in tree.infos():
            self.assertIs(tuple, type(info))

    def test_nodes_tell_their_own_flags(self):
        tree = shop()
        tree.set_flag("dialog", "visible", False)
        tree.set_flag("box", "enabled", False)
        flags = {info[0]: info[3:5] for info in tree.infos()}
        self.assertEqual((False, True), flags["dialog"])
        self.assertEqual((True, False), flags["box"])
        self.assertEqual((True, True), flags["yes"])
        self.assertEqual((False, True), (tree.is_visible("dialog"), tree.is_enabled("dialog")))
        self.assertEqual((True, False), (tree.is_visible("box"), tree.is_enabled("box")))
        self.assertEqual((True, True), (tree.is_visible("yes"), tree.is_enabled("yes")))

    def test_lists_that_were_returned_and_are_then_changed(self):
        tree = shop()
        before = told(tree)
        for result in (tree.names(), tree.infos(), tree.children("root"), tree.children("yes"),
                       tree.ancestors("yes"), tree.ancestors("root"), tree.subtree("root"), tree.subtree("yes")):
            result.reverse()
            result.append("x")
            self.assertEqual(before, told(tree))
            result.clear()
            self.assertEqual(before, told(tree))

    def test_a_list_that_was_returned_does_not_change_with_the_tree(self):
        tree = shop()
        names, infos, children = tree.names(), tree.infos(), tree.children("root")
        kept = list(names), list(infos), list(children)
        tree.remove("list")
        tree.insert("root", 0, "item", "new", "")
        self.assertEqual(kept, (names, infos, children))


class CopyTest(TreeTest):
    def edits(self):
        return (("insert", "box", 0, "item", "new", "New"), ("insert", "root", 0, "item", "new", "New"),
                ("move", "yes", "root", 0), ("move", "dialog", "list", 1), ("move", "pear", "list", 0),
                ("set_label", "root", "x"), ("set_label", "ok", "x"), ("remove", "ok"), ("remove", "dialog"),
                ("set_flag", "ok", "visible", False), ("set_flag", "ok", "enabled", False))

    def test_a_copy_is_alike(self):
        tree = shop()
        tree.set_flag("list", "visible", False)
        tree.set_flag("yes", "enabled", False)
        twin = tree.copy()
        self.assertIsInstance(twin, Tree)
        self.assertIsNot(tree, twin)
        self.assertEqual(told(tree), told(twin))

    def test_a_copy_stays_as_it_was(self):
        for edit in self.edits():
            tree = shop()
            before = told(tree)
            twin = tree.copy()
            getattr(tree, edit[0])(*edit[1:])
            self.assertEqual(before, told(twin), edit)
            self.assertNotEqual(before, told(tree), edit)

    def test_a_tree_stays_as_it_was_when_its_copy_is_edited(self):
        for edit in self.edits():
            tree = shop()
            before = told(tree)
            twin = tree.copy()
            getattr(twin, edit[0])(*edit[1:])
            self.assertEqual(before, told(tree), edit)
            self.assertNotEqual(before, told(twin), edit)

    def test_a_copy_can_be_edited_as_the_tree(self):
        for seed in range(5):
            tree = random_tree(seed)
            twin = tree.copy()
            for name in tree.names()[1:]:
                if tree.has(name):
                    self.assertEqual(tree.remove(name), twin.remove(name))
                    self.assertEqual(told(tree), told(twin))


class InsertTest(TreeTest):
    def test_at_each_index(self):
        for index in range(3):
            tree = shop()
            self.assertIsNone(tree.insert("dialog", index, "item", "new", "New"))
            expected = ["bar", "box"]
            expected.insert(index, "new")
            self.assertEqual(expected, tree.children("dialog"))
            self.assertEqual("dialog", tree.parent("new"))
        self.assert_refused("index out of range", shop(), "insert", "dialog", 3, "item", "new", "New")
        self.assert_refused("index out of range", shop(), "insert", "dialog", 59, "item", "new", "New")

    def test_into_a_node_without_children(self):
        tree = shop()
        self.assert_refused("index out of range", tree, "insert", "bar", 1, "item", "new", "New")
        tree.insert("bar", 0, "item", "new", "New")
        self.assertEqual(["new"], tree.children("bar"))

    def test_every_kind_under_every_kind(self):
        for outer in KINDS[1:]:
            for kind in KINDS:
                tree = new_tree("Root")
                tree.insert("root", 0, outer, "outer", "Outer")
                tree.insert("outer", 0, kind, "inner", "Inner")
                self.assertEqual([("outer", outer, "Outer", True, True, 1), ("inner", kind, "Inner", True, True, 2)],
                                 tree.infos()[1:])

    def test_below_a_hidden_parent_a_node_is_visible_and_enabled(self):
        tree = shop()
        tree.set_flag("box", "visible", False)
        tree.set_flag("box", "enabled", False)
        tree.insert("box", 0, "item", "new", "New")
        self.assertIn(("new", "item", "New", True, True, 3), tree.infos())

    def test_a_parent_at_the_depths_7_and_8(self):
        for kind in KINDS:
            tree = chain(7)
            tree.insert("c7", 0, kind, "new", "")
            self.assertEqual(8, tree.depth("new"))
        tree = chain(8)
        for kind in KINDS:
            self.assert_refused("tree too deep", tree, "insert", "c8", 0, kind, "new", "")

    def test_the_60th_and_the_61st_node(self):
        tree = filled(new_tree("Root"), 59)
        tree.insert("root", 58, "container", "last", "")
        self.assertEqual(60, len(tree.names()))
        self.assert_refused("too many nodes", tree, "insert", "last", 0, "item", "more", "")
        tree.remove("f0")
        tree.insert("last", 0, "item", "more", "")
        self.assertEqual(60, len(tree.names()))

    def test_each_error_alone(self):
        tree = shop()
        for what, arguments in (
            ("unknown node", ("none", 0, "item", "new", "")),
            ("an item cannot have children", ("ok", 0, "item", "new", "")),
            ("index out of range", ("root", 4, "item", "new", "")),
            ("duplicate name", ("root", 0, "item", "yes", "")),
            ("duplicate name", ("root", 0, "layer", "root", "")),
        ):
            self.assert_refused(what, tree, "insert", *arguments)

    def test_each_combination_of_errors(self):
        met = []
        for many in (58, 59, 60):
            tree = chain(8)
            tree.insert("c7", 0, "item", "deep", "")
            tree.insert("root", 0, "item", "item", "")
            filled(tree, many)
            rows = rows_of(tree)
            for arguments in itertools.product(("none", "item", "deep", "c8", "c7", "root"), (0, 1, 2, 58, 59),
                                               ("item",), ("new", "item", "c3", "root"), ("",)):
                parent, index, _, name, _ = arguments
                errors = rows.insert_errors(parent, index, name)
                met.extend(itertools.combinations(errors, 2))
                self.assert_insert(tree, arguments, errors)
        expected = list(itertools.combinations(INSERT_ERRORS, 2))
        for later in INSERT_ERRORS[1:4]:
            expected.remove(("unknown node", later))
        self.assertEqual(sorted(expected), sorted(set(met)))

    def assert_insert(self, tree, arguments, errors):
        if errors:
            self.assert_refused(errors[0], tree, "insert", *arguments)
        else:
            rows, twin = rows_of(tree), tree.copy()
            rows.insert(*arguments)
            twin.insert(*arguments)
            self.assert_as(rows, twin)


class MoveTest(TreeTest):
    def test_within_the_same_parent_to_each_index(self):
        names = ["a", "b", "c", "d"]
        for name in names:
            for index in range(4):
                tree = new_tree("Root")
                for at, other in enumerate(names):
                    tree.insert("root", at, "container", other, "")
                    tree.insert(other, 0, "item", other + "x", "")
                self.assertIsNone(tree.move(name, "root", index))
                expected = [other for other in names if other != name]
                expected.insert(index, name)
                self.assertEqual(expected, tree.children("root"))
                self.assertEqual([node for other in expected for node in (other, other + "x")], tree.names()[1:])
            self.assert_refused("index out of range", tree, "move", name, "root", 4)

    def test_to_the_place_where_it_stands(self):
        tree = shop()
        before = told(tree)
        for name in tree.names()[1:]:
            parent = tree.parent(name)
            self.assertIsNone(tree.move(name, parent, tree.children(parent).index(name)))
            self.assertEqual(before, told(tree))

    def test_to_another_parent(self):
        tree = shop()
        tree.set_flag("box", "visible", False)
        tree.set_label("yes", "Sure")
        tree.move("dialog", "list", 1)
        self.assertEqual(["apple", "dialog", "pear"], tree.children("list"))
        self.assertEqual(["ok", "list"], tree.children("root"))
        self.assertEqual(["root", "ok", "list", "apple", "dialog", "bar", "box", "yes", "pear"], tree.names())
        self.assertIn(("box", "container", "", False, True, 3), tree.infos())
        self.assertIn(("yes", "item", "Sure", True, True, 4), tree.infos())
        self.assertEqual(["box", "dialog", "list", "root"], tree.ancestors("yes"))

    def test_to_the_ends_of_another_parent(self):
        for index in range(3):
            tree = shop()
            tree.move("ok", "list", index)
            expected = ["apple", "pear"]
            expected.insert(index, "ok")
            self.assertEqual(expected, tree.children("list"))
        self.assert_refused("index out of range", shop(), "move", "ok", "list", 3)

    def test_into_itself_and_into_its_subtree(self):
        tree = shop()
        for parent in ("dialog", "bar", "box"):
            self.assert_refused("cannot move a node into itself", tree, "move", "dialog", parent, 0)
        self.assert_refused("an item cannot have children", tree, "move", "dialog", "yes", 0)
        self.assert_refused("an item cannot have children", tree, "move", "ok", "ok", 0)

    def test_to_the_depths_8_and_9(self):
        tree = chain(6)
        tree.insert("root", 0, "container", "a", "")
        tree.insert("a", 0, "container", "b", "")
        tree.insert("b", 0, "item", "c", "")
        tree.insert("a", 1, "item", "d", "")
        self.assert_refused("tree too deep", tree, "move", "a", "c6", 0)
        tree.move("a", "c5", 0)
        self.assertEqual(8, tree.depth("c"))
        self.assertEqual(["c1", "c2", "c3", "c4", "c5", "a", "b", "c", "d", "c6"], tree.names()[1:])
        tree.move("b", "c6", 0)
        self.assertEqual((7, 8), (tree.depth("b"), tree.depth("c")))
        self.assert_refused("tree too deep", tree, "move", "c6", "a", 0)

    def test_a_node_without_children_to_the_depths_8_and_9(self):
        tree = chain(8)
        tree.insert("root", 0, "item", "a", "")
        self.assert_refused("tree too deep", tree, "move", "a", "c8", 0)
        tree.move("a", "c7", 1)
        self.assertEqual(8, tree.depth("a"))
        tree.move("a", "c7", 0)
        self.assertEqual(["a", "c8"], tree.children("c7"))

    def test_each_error_alone(self):
        tree = shop()
        for what, arguments in (
            ("unknown node", ("none", "root", 0)),
            ("unknown node", ("ok", "none", 0)),
            ("unknown node", ("none", "none", 0)),
            (ROOT_ERROR, ("root", "list", 0)),
            (ROOT_ERROR, ("root", "root", 0)),
            ("an item cannot have children", ("list", "ok", 0)),
            ("cannot move a node into itself", ("list", "list", 0)),
            ("index out of range", ("list", "root", 3)),
            ("index out of range", ("ok", "list", 3)),
        ):
            self.assert_refused(what, tree, "move", *arguments)

    def test_each_combination_of_errors(self):
        tree = chain(8)
        tree.insert("c7", 0, "item", "deep", "")
        tree.insert("root", 0, "item", "item", "")
        tree.insert("root", 0, "container", "a", "")
        tree.insert("a", 0, "item", "b", "")
        tree.insert("a", 1, "container", "c", "")
        rows = rows_of(tree)
        names = tree.names() + ["none"]
        met = []
        for arguments in itertools.product(names, names, (0, 1, 2, 3, 4, 59)):
            errors = rows.move_errors(*arguments)
            met.extend(itertools.combinations(errors, 2))
            self.assert_move(tree, arguments, errors)
        expected = list(itertools.combinations(MOVE_ERRORS, 2))
        expected.remove(("unknown node", "cannot move a node into itself"))
        expected.remove(("unknown node", "tree too deep"))
        self.assertEqual(sorted(expected), sorted(set(met)))

    def assert_move(self, tree, arguments, errors):
        if errors:
            self.assert_refused(errors[0], tree, "move", *arguments)
        else:
            rows, twin = rows_of(tree), tree.copy()
            rows.move(*arguments)
            self.assertIsNone(twin.move(*arguments))
            self.assert_as(rows, twin)


class LabelTest(TreeTest):
    def test_of_any_node(self):
        tree = shop()
        for name in tree.names():
            for label in ("", "New", tree.label(name)):
                rows = rows_of(tree)
                rows.change(name, 2, label)
                self.assertIsNone(tree.set_label(name, label))
                self.assert_as(rows, tree)

    def test_error(self):
        self.assert_refused("unknown node", shop(), "set_label", "none", "New")


class RemoveTest(TreeTest):
    def test_with_and_without_descendants(self):
        for name, many in (("ok", 1), ("apple", 1), ("list", 3), ("bar", 1), ("box", 2), ("dialog", 4)):
            tree = shop()
            rows = rows_of(tree)
            gone = tree.subtree(name)
            self.assertEqual(many, tree.remove(name))
            rows.remove(name)
            self.assert_as(rows, tree)
            for node in gone:
                self.assertIs(False, tree.has(node))
                self.assert_refused("unknown node", tree, "remove", node)

    def test_a_name_can_be_inserted_again(self):
        tree = shop()
        tree.set_flag("list", "visible", False)
        tree.set_flag("apple", "enabled", False)
        tree.remove("list")
        tree.insert("root", 0, "linear", "list", "Again")
        self.assertEqual([], tree.children("list"))
        self.assertEqual(("list", "linear", "Again", True, True, 1), tree.infos()[1])
        tree.insert("list", 0, "item", "apple", "Red")
        self.assertEqual(("apple", "item", "Red", True, True, 2), tree.infos()[2])
        self.assertEqual(["list", "root"], tree.ancestors("apple"))

    def test_errors(self):
        tree = shop()
        self.assert_refused("unknown node", tree, "remove", "none")
        self.assert_refused(ROOT_ERROR, tree, "remove", "root")
        self.assert_refused(ROOT_ERROR, new_tree("Root"), "remove", "root")


class FlagTest(TreeTest):
    def test_each_flag_of_each_node(self):
        for name in shop().names()[1:]:
            for flag, column in (("visible", 3), ("enabled", 4)):
                tree = shop()
                for value, changed in ((True, False), (False, True), (False, False), (True, True)):
                    rows = rows_of(tree)
                    rows.change(name, column, value)
                    self.assertIs(changed, tree.set_flag(name, flag, value), (name, flag, value))
                    self.assert_as(rows, tree)

    def test_errors(self):
        for flag in ("visible", "enabled"):
            for value in (True, False):
                self.assert_refused("unknown node", shop(), "set_flag", "none", flag, value)
                self.assert_refused(ROOT_ERROR, shop(), "set_flag", "root", flag, value)


class ManyEditsTest(TreeTest):
    def test_edits_in_a_row(self):
        for seed in range(12):
            chance = random.Random(seed)
            tree, rows = new_tree("Root"), Rows("Root")
            for number in range(120):
                self.edit(chance, number, tree, rows)
                self.assertEqual(rows.rows, tree.infos())
            self.assert_as(rows, tree)

    def edit(self, chance, number, tree, rows):
        name, parent = chance.choice(tree.names() + ["none"]), chance.choice(tree.names()[-8:] + ["root", "none"])
        index, label = chance.choice((0, 0, 0, 1, 2, 3)), chance.choice(LABELS)
        word = chance.choice(("insert", "insert", "insert", "insert", "move", "move", "set_label", "flag", "remove"))
        if word == "insert":
            new = chance.choice((f"n{number}", f"n{number}", f"n{number}", name))
            arguments = (parent, index, chance.choice(KINDS), new, label)
            self.both(tree, rows, word, arguments, rows.insert_errors(parent, index, new))
        elif word == "move":
            self.both(tree, rows, word, (name, parent, index), rows.move_errors(name, parent, index))
        elif tree.has(name) and word == "set_label":
            tree.set_label(name, label)
            rows.change(name, 2, label)
        elif tree.has(name) and name != "root" and word == "flag":
            at, value = chance.choice((3, 4)), chance.choice((True, False))
            flag = "visible" if at == 3 else "enabled"
            self.assertIs(rows.change(name, at, value), tree.set_flag(name, flag, value))
        elif tree.has(name) and name != "root" and len(tree.subtree(name)) < 4:
            self.assertEqual(rows.remove(name), tree.remove(name))

    def both(self, tree, rows, word, arguments, errors):
        if errors:
            self.assert_refused(errors[0], tree, word, *arguments)
        else:
            getattr(tree, word)(*arguments)
            getattr(rows, word)(*arguments)


if __name__ == "__main__":
    unittest.main()
