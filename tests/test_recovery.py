"""Point 18: the replacement of an item that no longer qualifies."""

import random
import unittest

from keyfocus.focusable import focusable_items
from keyfocus.recovery import replacement
from keyfocus.taborder import members, outer_composites
from trees import random_tree, replaced_in, rows_of, told, tree_of

BEFORE = (
    '  item a ""',
    '  circular ring ""',
    '    item b ""',
    '    container one ""',
    '      item c ""',
    '      item d ""',
    '      item e ""',
    '      item f ""',
    '      item g ""',
    '    container two ""',
    '      item h ""',
    '    item i ""',
    '  item j ""',
)


class ReplacementTest(unittest.TestCase):
    def assert_replaced(self, expected, item, top, allowed):
        tree = tree_of(*BEFORE)
        before, given = told(tree), list(allowed)
        self.assertEqual(expected, replacement(tree, item, top, given), (item, top, allowed))
        self.assertEqual((before, list(allowed)), (told(tree), given))

    def test_one_behind_and_one_ahead_in_the_same_parent(self):
        for top in ("root", "ring"):
            self.assert_replaced("f", "e", top, ["d", "f"])
            self.assert_replaced("f", "e", top, ["b", "c", "d", "f", "g", "h"])
            self.assert_replaced("g", "e", top, ["d", "g"])
            self.assert_replaced("g", "c", top, ["b", "g", "h"])

    def test_only_ahead(self):
        for top in ("root", "ring"):
            self.assert_replaced("d", "e", top, ["c", "d"])
            self.assert_replaced("c", "e", top, ["c"])
            self.assert_replaced("c", "e", top, ["b", "c", "h", "i"])
            self.assert_replaced("f", "g", top, ["b", "c", "f", "h", "i"])

    def test_only_in_an_ancestor_further_up(self):
        for top in ("root", "ring"):
            self.assert_replaced("h", "e", top, ["b", "h", "i"])
            self.assert_replaced("i", "e", top, ["b", "i"])
            self.assert_replaced("b", "e", top, ["b"])
            self.assert_replaced("i", "h", top, ["b", "c", "g", "i"])
            self.assert_replaced("g", "h", top, ["b", "c", "g"])

    def test_at_the_top_itself(self):
        self.assert_replaced("j", "e", "root", ["a", "j"])
        self.assert_replaced("a", "e", "root", ["a"])
        self.assert_replaced("b", "a", "root", ["b", "j"])
        self.assert_replaced("i", "j", "root", ["a", "b", "i"])
        self.assert_replaced("c", "b", "ring", ["c", "i"])
        self.assert_replaced("h", "i", "ring", ["b", "h"])

    def test_an_ancestor_further_up_may_lead_ahead_although_the_top_has_one_behind(self):
        self.assert_replaced("b", "i", "root", ["a", "b", "j"])
        self.assert_replaced("b", "e", "root", ["a", "b", "j"])

    def test_outside_of_the_top(self):
        self.assert_replaced("a", "e", "ring", ["a", "j"])
        self.assert_replaced("j", "e", "ring", ["j"])
        self.assert_replaced("j", "e", "ring", ["j", "a"])
        self.assert_replaced("b", "e", "ring", ["a", "b", "j"])
        self.assert_replaced("a", "b", "ring", ["a", "j"])

    def test_none_at_all(self):
        for item in "abcdefghij":
            self.assert_replaced(None, item, "root", [])
        self.assert_replaced(None, "e", "ring", [])

    def test_items_that_are_new_since_the_change(self):
        self.assert_replaced("d", "e", "ring", ["new", "d"])
        self.assert_replaced("h", "e", "ring", ["new", "h", "new2"])
        self.assert_replaced("new", "e", "ring", ["new"])
        self.assert_replaced("new", "e", "ring", ["new", "new2"])
        self.assert_replaced("new", "e", "ring", ["new", "a", "j"])
        self.assert_replaced("a", "e", "root", ["new", "a"])
        self.assert_replaced("new", "e", "root", ["new"])

    def test_the_order_before_the_change_decides(self):
        self.assert_replaced("f", "e", "ring", ["g", "d", "f"])
        self.assert_replaced("d", "e", "ring", ["d", "c"])
        self.assert_replaced("h", "e", "ring", ["i", "h", "b"])

    def test_the_ancestors_before_the_change_decide(self):
        tree = tree_of(*BEFORE)
        after = tree.copy()
        after.move("f", "two", 0)
        after.move("h", "one", 0)
        after.set_flag("e", "visible", False)
        after.remove("g")
        self.assertEqual("f", replacement(tree, "e", "ring", members(after, "ring")))
        after.remove("f")
        self.assertEqual("d", replacement(tree, "e", "ring", members(after, "ring")))
        after.remove("d")
        after.remove("c")
        self.assertEqual("h", replacement(tree, "e", "ring", members(after, "ring")))

    def test_nothing_is_kept_of_an_earlier_call(self):
        tree = tree_of(*BEFORE)
        allowed = ["d", "f"]
        self.assertEqual("f", replacement(tree, "e", "ring", allowed))
        allowed.remove("f")
        self.assertEqual("d", replacement(tree, "e", "ring", allowed))

    def test_many_changes(self):
        for seed in range(40):
            chance = random.Random(seed)
            before = random_tree(seed, 30, 0.05)
            after = before.copy()
            for name in before.names()[1:]:
                if chance.random() < 0.3 and after.has(name):
                    after.remove(name)
                elif chance.random() < 0.3 and after.has(name):
                    after.set_flag(name, "visible", chance.choice((True, False)))
            self.assert_all(before, after)

    def assert_all(self, before, after):
        rows = rows_of(before)
        layers = [name for name in before.names() if before.kind(name) == "layer"]
        for top, found in ([(layer, focusable_items) for layer in layers]
                           + [(composite, members) for composite in outer_composites(before)]):
            allowed = found(after, top) if after.has(top) else []
            for item in found(before, top):
                if item not in allowed:
                    expected = replaced_in(rows, item, top, allowed)
                    self.assertEqual(expected, replacement(before, item, top, allowed))


if __name__ == "__main__":
    unittest.main()
