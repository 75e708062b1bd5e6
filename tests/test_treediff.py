"""Points 31 and 32: the differences of two trees, and the edits that make one out of another."""

import random
import unittest

from keyfocus.errors import Refused
from keyfocus.treediff import differences, edited, edits
from trees import KINDS, LABELS, Rows, random_tree, rows_of, told, tree_of

SAMPLE = (
    '  item a "A"',
    '  linear bar "Bar"',
    '    item b "B"',
    '    container box ""',
    '      item c "C" hidden',
    '      item d "D"',
    '  layer pop "Pop" disabled',
    '    item e "E"',
)
COLUMNS = {"set_label": 2, "show": 3, "hide": 3, "enable": 4, "disable": 4}
VALUES = {"show": True, "hide": False, "enable": True, "disable": False}


def place_in(rows, name):
    """The parent of a node and its index there, told by rows."""
    if name == "root":
        return None
    parent = rows.ancestors(name)[0]
    return parent, rows.children(parent).index(name)


def is_alike(one, other, name):
    return one.has(name) and other.has(name) and one.kind(name) == other.kind(name)


def differences_in(one, other):
    """The differences, told by rows."""
    found = [(row[0], "gone") for row in one.rows if not is_alike(one, other, row[0])]
    for row in other.rows:
        name = row[0]
        if not is_alike(one, other, name):
            found.append((name, "new"))
            continue
        old = one.rows[one.at(name)]
        for what, differs in (("place", place_in(one, name) != place_in(other, name)), ("label", row[2] != old[2]),
                              ("visible", row[3] != old[3]), ("enabled", row[4] != old[4])):
            if differs:
                found.append((name, what))
    return found


class Maker:
    """Rows, and the edits that are done with them, one after another, as point 32 tells."""

    def __init__(self, one, other):
        self.rows, self.other, self.deeds = Rows(""), other, []
        self.rows.rows = list(one.rows)
        for name in [row[0] for row in one.rows if not is_alike(one, other, row[0])]:
            for child in reversed(self.rows.children(name)):
                self.do("move", child, "root", 0)
            self.do("remove", name)
        left = [row[0] for row in self.rows.rows]
        if any(place_in(self.rows, name) != place_in(other, name) for name in left):
            for name in left:
                if self.rows.depth(name) > 1:
                    self.do("move", name, "root", 0)
        for row in other.rows:
            self.make(row)

    def make(self, row):
        name, kind, label, visible, enabled, _ = row
        if not self.rows.has(name):
            parent, index = place_in(self.other, name)
            self.do("insert", parent, index, kind, name, label)
        elif place_in(self.rows, name) != place_in(self.other, name):
            self.do("move", name, *place_in(self.other, name))
        now = self.rows.rows[self.rows.at(name)]
        if now[2] != label:
            self.do("set_label", name, label)
        if now[3] != visible:
            self.do("show" if visible else "hide", name)
        if now[4] != enabled:
            self.do("enable" if enabled else "disable", name)

    def do(self, word, *arguments):
        self.deeds.append((word,) + arguments)
        if word in COLUMNS:
            self.rows.change(arguments[0], COLUMNS[word], VALUES.get(word, arguments[-1]))
        else:
            errors = getattr(self.rows, word + "_errors", lambda *_: [])
            told_to = arguments[:2] + arguments[3:4] if word == "insert" else arguments
            assert not errors(*told_to)
            getattr(self.rows, word)(*arguments)


def changed(tree, seed, many):
    """A tree that is changed at random."""
    chance, tree = random.Random(seed), tree.copy()
    for number in range(many):
        names = tree.names()
        name, parent = chance.choice(names), chance.choice(names)
        try:
            deed = chance.randrange(7)
            if deed == 0:
                tree.remove(name)
            elif deed == 1:
                tree.insert(parent, 0, chance.choice(KINDS), f"x{number}", chance.choice(LABELS))
            elif deed == 2:
                kind = chance.choice(KINDS)
                tree.remove(name)
                tree.insert(parent, 0, kind, name, chance.choice(LABELS))
            elif deed < 5:
                tree.move(name, parent, chance.randrange(3))
            elif deed == 5:
                tree.set_label(name, chance.choice(LABELS))
            else:
                tree.set_flag(name, chance.choice(("visible", "enabled")), chance.choice((True, False)))
        except Refused:
            pass
    return tree


class TreeDiffCase(unittest.TestCase):
    def assert_edits(self, expected_differences, expected_edits, one, other):
        before = told(one), told(other)
        self.assertEqual(expected_differences, differences(one, other))
        self.assertEqual(expected_edits, edits(one, other))
        self.assertEqual(told(other), told(edited(one, expected_edits)))
        self.assertEqual(before, (told(one), told(other)))

    def after(self, *deeds):
        """The differences and edits from the sample to the tree behind some edits."""
        return edited(tree_of(*SAMPLE), list(deeds))

    def assert_after(self, expected_differences, expected_edits, *deeds):
        self.assert_edits(expected_differences, expected_edits, tree_of(*SAMPLE), self.after(*deeds))


class OneChangeTest(TreeDiffCase):
    def test_a_tree_and_its_copy(self):
        for tree in (tree_of(), tree_of(*SAMPLE), random_tree(1, 59)):
            self.assert_edits([], [], tree, tree.copy())
            self.assert_edits([], [], tree, tree)

    def test_labels_and_flags(self):
        for deed, what in ((("set_label", "b", "New"), "label"), (("hide", "b"), "visible"), (("disable", "b"), "enabled"),
                           (("show", "c"), "visible"), (("enable", "pop"), "enabled"), (("set_label", "root", ""), "label")):
            self.assert_after([(deed[1], what)], [deed], deed)

    def test_a_label_and_both_flags(self):
        self.assert_after([("b", "label"), ("b", "visible"), ("b", "enabled")],
                          [("set_label", "b", "x"), ("hide", "b"), ("disable", "b")],
                          ("disable", "b"), ("set_label", "b", "x"), ("hide", "b"))
        self.assert_edits([("b", "label"), ("b", "visible"), ("b", "enabled")],
                          [("set_label", "b", "B"), ("show", "b"), ("enable", "b")],
                          self.after(("disable", "b"), ("set_label", "b", "x"), ("hide", "b")), tree_of(*SAMPLE))

    def test_a_node_that_is_gone(self):
        self.assert_after([("d", "gone")], [("remove", "d")], ("remove", "d"))
        self.assert_after([("e", "gone")], [("remove", "e")], ("remove", "e"))
        self.assert_after([("pop", "gone"), ("e", "gone")], [("move", "e", "root", 0), ("remove", "pop"), ("remove", "e")],
                          ("remove", "pop"))

    def test_a_gone_node_ahead_of_others(self):
        # Behind the removal every node that is left has its place.
        self.assert_after([("a", "gone"), ("bar", "place"), ("pop", "place")], [("remove", "a")], ("remove", "a"))

    def test_a_gone_node_with_children_that_are_left(self):
        one = tree_of('  container a ""', '    item b ""', '    linear c ""', '      item d ""', '    item e ""')
        other = tree_of('  item b ""', '  linear c ""', '    item d ""', '  item e ""')
        self.assert_edits([("a", "gone"), ("b", "place"), ("c", "place"), ("e", "place")],
                          [("move", "e", "root", 0), ("move", "c", "root", 0), ("move", "b", "root", 0), ("remove", "a")],
                          one, other)

    def test_a_new_node_at_the_end(self):
        self.assert_after([("new", "new")], [("insert", "box", 2, "item", "new", "New")],
                          ("insert", "box", 2, "item", "new", "New"))
        self.assert_after([("new", "new")], [("insert", "root", 3, "layer", "new", ""), ("hide", "new"), ("disable", "new")],
                          ("insert", "root", 3, "layer", "new", ""), ("disable", "new"), ("hide", "new"))

    def test_a_new_node_ahead_of_others(self):
        one = tree_of('  item a ""', '  linear b ""', '    item c ""', '    item d ""')
        other = tree_of('  item a ""', '  linear b ""', '    item new "N"', '    item c ""', '    item d ""')
        self.assert_edits(
            [("new", "new"), ("c", "place"), ("d", "place")],
            [("move", "c", "root", 0), ("move", "d", "root", 0), ("move", "a", "root", 0), ("move", "b", "root", 1),
             ("insert", "b", 0, "item", "new", "N"), ("move", "c", "b", 1), ("move", "d", "b", 2)], one, other)

    def test_another_place(self):
        one = tree_of('  item a ""', '  item b ""', '  item c ""')
        self.assert_edits([("b", "place"), ("a", "place")], [("move", "b", "root", 0)],
                          one, tree_of('  item b ""', '  item a ""', '  item c ""'))
        self.assert_edits([("c", "place"), ("a", "place"), ("b", "place")], [("move", "c", "root", 0)],
                          one, tree_of('  item c ""', '  item a ""', '  item b ""'))
        self.assert_edits([("b", "place"), ("c", "place"), ("a", "place")],
                          [("move", "b", "root", 0), ("move", "c", "root", 1)],
                          one, tree_of('  item b ""', '  item c ""', '  item a ""'))

    def test_another_parent(self):
        one = tree_of('  container a ""', '    item b ""', '  container c ""', '    item d ""')
        other = tree_of('  container a ""', '  container c ""', '    item b ""', '    item d ""')
        self.assert_edits([("b", "place"), ("d", "place")],
                          [("move", "b", "root", 0), ("move", "d", "root", 0), ("move", "a", "root", 0),
                           ("move", "c", "root", 1), ("move", "b", "c", 0), ("move", "d", "c", 1)], one, other)

    def test_a_chain_that_is_turned_over(self):
        one = tree_of('  container a ""', '    container b ""', '      container c ""', '        item d ""')
        other = tree_of('  container c ""', '    container b ""', '      container a ""', '        item d ""')
        self.assert_edits([("c", "place"), ("b", "place"), ("a", "place"), ("d", "place")],
                          [("move", "b", "root", 0), ("move", "c", "root", 0), ("move", "d", "root", 0),
                           ("move", "c", "root", 0), ("move", "b", "c", 0), ("move", "a", "b", 0), ("move", "d", "a", 0)],
                          one, other)

    def test_another_kind_under_the_same_name(self):
        one = tree_of('  linear a "A"', '    item b ""', '    item c ""', '  item d ""')
        other = tree_of('  circular a "A"', '    item b ""', '    item c ""', '  item d ""')
        self.assert_edits([("a", "gone"), ("a", "new")],
                          [("move", "c", "root", 0), ("move", "b", "root", 0), ("remove", "a"),
                           ("insert", "root", 0, "circular", "a", "A"), ("move", "b", "a", 0), ("move", "c", "a", 1)],
                          one, other)

    def test_several_at_once(self):
        one = tree_of('  item a "A"', '  container b ""', '    item c ""', '  item d "" hidden')
        other = tree_of('  item d "D"', '  layer c ""', '    item new "" disabled', '  container b "" hidden')
        self.assert_edits(
            [("a", "gone"), ("c", "gone"), ("d", "place"), ("d", "label"), ("d", "visible"), ("c", "new"), ("new", "new"),
             ("b", "place"), ("b", "visible")],
            [("remove", "a"), ("remove", "c"), ("move", "d", "root", 0), ("set_label", "d", "D"), ("show", "d"),
             ("insert", "root", 1, "layer", "c", ""), ("insert", "c", 0, "item", "new", ""), ("disable", "new"),
             ("hide", "b")], one, other)

    def test_from_the_root_alone_and_back(self):
        one, other = tree_of(), tree_of('  linear a "A" hidden', '    item b "B"')
        other.set_label("root", "Other")
        self.assert_edits([("root", "label"), ("a", "new"), ("b", "new")],
                          [("set_label", "root", "Other"), ("insert", "root", 0, "linear", "a", "A"), ("hide", "a"),
                           ("insert", "a", 0, "item", "b", "B")], one, other)
        self.assert_edits([("a", "gone"), ("b", "gone"), ("root", "label")],
                          [("move", "b", "root", 0), ("remove", "a"), ("remove", "b"), ("set_label", "root", "Root")],
                          other, one)


class EditedTest(TreeDiffCase):
    def assert_refused(self, what, *deeds):
        tree = tree_of(*SAMPLE)
        before, given = told(tree), list(deeds)
        with self.assertRaises(Refused) as caught:
            edited(tree, given)
        self.assertEqual(what, caught.exception.what)
        self.assertEqual((before, list(deeds)), (told(tree), given))

    def test_each_word(self):
        tree = tree_of(*SAMPLE)
        before = told(tree)
        after = edited(tree, [("insert", "pop", 0, "circular", "new", "New"), ("move", "b", "new", 0), ("remove", "a"),
                              ("set_label", "b", "moved"), ("show", "c"), ("hide", "d"), ("enable", "pop"),
                              ("disable", "box")])
        expected = tree_of('  linear bar "Bar"', '    container box "" disabled', '      item c "C"', '      item d "D" hidden',
                           '  layer pop "Pop"', '    circular new "New"', '      item b "moved"', '    item e "E"')
        self.assertEqual(told(expected), told(after))
        self.assertEqual(before, told(tree))

    def test_no_edits(self):
        tree = tree_of(*SAMPLE)
        after = edited(tree, [])
        self.assertEqual(told(tree), told(after))
        after.remove("a")
        self.assertTrue(tree.has("a"))

    def test_errors(self):
        self.assert_refused("unknown node", ("hide", "a"), ("remove", "a"), ("show", "a"))
        self.assert_refused("not allowed for the root layer", ("remove", "root"))
        self.assert_refused("index out of range", ("move", "a", "pop", 2))
        self.assert_refused("duplicate name", ("insert", "pop", 0, "item", "a", ""))
        self.assert_refused("an item cannot have children", ("insert", "a", 9, "item", "a", ""))
        self.assert_refused("cannot move a node into itself", ("move", "bar", "box", 0))

    def test_deeds_of_another_word(self):
        for deed in (("focus", "a"), ("open_layer", "pop"), ("take",), ("edit", "a"), ("",), ("Remove", "a"),
                     ("bind", "a", "a", "run x"), ("announce", "a", True)):
            self.assert_refused("no edit", deed)
            self.assert_refused("no edit", ("remove", "a"), deed, ("remove", "b"))
            self.assert_refused("no edit", ("remove", "a"), deed, ("remove", "a"))
            self.assert_refused("unknown node", ("remove", "a"), ("remove", "a"), deed)


class ManyTreesTest(TreeDiffCase):
    def compare(self, one, other):
        rows, others = rows_of(one), rows_of(other)
        self.assert_edits(differences_in(rows, others), Maker(rows, others).deeds, one, other)

    def test_changed_trees(self):
        for seed in range(60):
            one = random_tree(seed, seed % 30, 0.1)
            self.compare(one, changed(one, seed, 1 + seed % 5))
            self.compare(changed(one, seed, 1 + seed % 7), one)

    def test_trees_that_have_only_names_in_common(self):
        for seed in range(25):
            self.compare(random_tree(seed, 20, 0.1), random_tree(seed + 100, 25, 0.1))

    def test_trees_of_sixty_nodes(self):
        for seed in range(4):
            one, other = random_tree(seed, 59), random_tree(seed + 50, 59)
            self.assertEqual(60, len(one.names()))
            self.compare(one, other)
            self.compare(one, changed(one, seed, 20))
            self.compare(tree_of(), one)
            self.compare(one, tree_of())

    def test_trees_of_depth_8(self):
        chain = [f'{"  " * depth}container n{depth} ""' for depth in range(1, 9)]
        turned = [f'{"  " * depth}container n{9 - depth} ""' for depth in range(1, 9)]
        layers = [line.replace("container", "layer") for line in turned]
        trees = [tree_of(*lines) for lines in (chain, turned, layers, chain[:4], turned[:7])]
        for one in trees:
            for other in trees:
                self.compare(one, other)

    def test_lists_are_not_shared(self):
        one, other = tree_of(*SAMPLE), tree_of()
        for tell in (differences, edits):
            found = tell(one, other)
            self.assertIs(list, type(found))
            copy = list(found)
            found.clear()
            self.assertEqual(copy, tell(one, other))


if __name__ == "__main__":
    unittest.main()
