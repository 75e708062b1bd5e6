"""Point 15: the movements from a member of a composite, and typeahead."""

import unittest

from keyfocus.composites import found_by, moved
from keyfocus.taborder import members, outer_composites
from trees import random_tree, told, tree_of

MOVES = ("nextItem", "previousItem", "firstItem", "lastItem")
BOTH = ("linear", "circular")


def row_of(kind, many):
    """A tree with a composite of some members m0, m1 .., and items around it."""
    inside = [f'    item m{number} "Member {number}"' for number in range(many)]
    return tree_of('  item before "Member"', f'  {kind} row ""', *inside, '  item behind "Member"')


class MovedTest(unittest.TestCase):
    def assert_moves(self, tree, item, *expected):
        before = told(tree)
        self.assertEqual(expected, tuple(moved(tree, item, movement) for movement in MOVES), item)
        self.assertEqual(before, told(tree))

    def test_in_a_linear_composite(self):
        tree = row_of("linear", 4)
        self.assert_moves(tree, "m0", "m1", "m0", "m0", "m3")
        self.assert_moves(tree, "m1", "m2", "m0", "m0", "m3")
        self.assert_moves(tree, "m2", "m3", "m1", "m0", "m3")
        self.assert_moves(tree, "m3", "m3", "m2", "m0", "m3")

    def test_in_a_circular_composite(self):
        tree = row_of("circular", 4)
        self.assert_moves(tree, "m0", "m1", "m3", "m0", "m3")
        self.assert_moves(tree, "m1", "m2", "m0", "m0", "m3")
        self.assert_moves(tree, "m2", "m3", "m1", "m0", "m3")
        self.assert_moves(tree, "m3", "m0", "m2", "m0", "m3")

    def test_with_one_or_two_members(self):
        for kind in BOTH:
            self.assert_moves(row_of(kind, 1), "m0", "m0", "m0", "m0", "m0")
        self.assert_moves(row_of("linear", 2), "m0", "m1", "m0", "m0", "m1")
        self.assert_moves(row_of("linear", 2), "m1", "m1", "m0", "m0", "m1")
        self.assert_moves(row_of("circular", 2), "m0", "m1", "m1", "m0", "m1")
        self.assert_moves(row_of("circular", 2), "m1", "m0", "m0", "m0", "m1")

    def test_the_first_item_is_hidden_or_disabled(self):
        for flag in ("visible", "enabled"):
            linear, circular = row_of("linear", 4), row_of("circular", 4)
            linear.set_flag("m0", flag, False)
            circular.set_flag("m0", flag, False)
            self.assert_moves(linear, "m1", "m2", "m1", "m1", "m3")
            self.assert_moves(linear, "m3", "m3", "m2", "m1", "m3")
            self.assert_moves(circular, "m1", "m2", "m3", "m1", "m3")
            self.assert_moves(circular, "m3", "m1", "m2", "m1", "m3")

    def test_the_last_item_is_hidden_or_disabled(self):
        for flag in ("visible", "enabled"):
            linear, circular = row_of("linear", 4), row_of("circular", 4)
            linear.set_flag("m3", flag, False)
            circular.set_flag("m3", flag, False)
            self.assert_moves(linear, "m2", "m2", "m1", "m0", "m2")
            self.assert_moves(linear, "m0", "m1", "m0", "m0", "m2")
            self.assert_moves(circular, "m2", "m0", "m1", "m0", "m2")
            self.assert_moves(circular, "m0", "m1", "m2", "m0", "m2")

    def test_an_item_between_is_hidden(self):
        tree = row_of("linear", 4)
        tree.set_flag("m1", "visible", False)
        self.assert_moves(tree, "m0", "m2", "m0", "m0", "m3")
        self.assert_moves(tree, "m2", "m3", "m0", "m0", "m3")

    def test_the_outermost_composite_decides(self):
        for outer, stays in (("linear", True), ("circular", False)):
            for inner in BOTH:
                tree = tree_of(f'  {outer} a ""', f'    {inner} b ""', '      item x ""', '      item y ""',
                               '    layer l ""', '      item no ""', '    container c ""', '      item z ""')
                self.assert_moves(tree, "y", "z", "x", "x", "z")
                self.assert_moves(tree, "x", "y", "x" if stays else "z", "x", "z")
                self.assert_moves(tree, "z", "z" if stays else "x", "y", "x", "z")

    def test_many_trees(self):
        for seed in range(60):
            tree = random_tree(seed, 30, 0.05)
            for composite in outer_composites(tree):
                row = members(tree, composite)
                for at, item in enumerate(row):
                    following = row[at + 1:at + 2] or [row[0] if tree.kind(composite) == "circular" else item]
                    preceding = row[:at][-1:] or [row[-1] if tree.kind(composite) == "circular" else item]
                    self.assert_moves(tree, item, following[0], preceding[0], row[0], row[-1])


class FoundByTest(unittest.TestCase):
    LABELS = ("Apple", "banana", "Avocado", "Blueberry", "apricot", "Cherry")

    def row(self, kind):
        inside = [f'    item m{at} "{label}"' for at, label in enumerate(self.LABELS)]
        return tree_of('  item before "Damson"', f'  {kind} row "Damson"', *inside, '  item behind "Damson"')

    def assert_found(self, item, text, expected):
        for kind in BOTH:
            tree = self.row(kind)
            before = told(tree)
            self.assertEqual(expected, found_by(tree, item, text), (item, text))
            self.assertEqual(before, told(tree))

    def test_one_before_and_one_behind(self):
        self.assert_found("m2", "a", "m4")
        self.assert_found("m0", "a", "m2")
        self.assert_found("m1", "b", "m3")
        self.assert_found("m1", "a", "m2")

    def test_from_the_first_member_on(self):
        self.assert_found("m4", "a", "m0")
        self.assert_found("m5", "a", "m0")
        self.assert_found("m3", "b", "m1")
        self.assert_found("m5", "b", "m1")
        self.assert_found("m5", "av", "m2")

    def test_only_the_current_member(self):
        self.assert_found("m5", "c", "m5")
        self.assert_found("m5", "Cherry", "m5")
        self.assert_found("m0", "app", "m0")

    def test_no_label(self):
        for at in range(6):
            for text in ("x", "damson", "pple", "apples", " apple", "Apple ", "herry", "."):
                self.assert_found(f"m{at}", text, f"m{at}")

    def test_other_cases_of_letters(self):
        for text in ("blue", "BLUE", "bLuE", "Blueberry", "BLUEBERRY"):
            self.assert_found("m0", text, "m3")
        for text in ("banana", "BANANA", "Ban"):
            self.assert_found("m2", text, "m1")
        self.assert_found("m4", "AV", "m2")

    def test_the_empty_text(self):
        for at in range(6):
            self.assert_found(f"m{at}", "", f"m{(at + 1) % 6}")

    def test_the_whole_label_counts_and_other_signs_do_too(self):
        tree = tree_of('  linear row ""', '    item a "[x] one"', '    item b "{x} one"', '    item c "say \\"no\\""',
                       '    item d "_"', '    item e ""')
        self.assertEqual("a", found_by(tree, "c", "["))
        self.assertEqual("b", found_by(tree, "a", "{"))
        self.assertEqual("c", found_by(tree, "a", 'SAY "N'))
        self.assertEqual("d", found_by(tree, "a", "_"))
        self.assertEqual("a", found_by(tree, "a", "@"))

    def test_one_member(self):
        tree = tree_of('  circular row ""', '    item a "A"', '    item b "B" hidden')
        for text in ("", "a", "b", "x"):
            self.assertEqual("a", found_by(tree, "a", text))

    def test_members_only(self):
        tree = tree_of('  linear row ""', '    item a "x"', '    item b "B" hidden', '    layer l ""',
                       '      item c "B"', '    container in "B"', '      item d "b" disabled', '  item e "B"')
        self.assertEqual("a", found_by(tree, "a", "b"))
        tree.set_flag("d", "enabled", True)
        self.assertEqual("d", found_by(tree, "a", "b"))

    def test_many_trees(self):
        for seed in range(40):
            tree = random_tree(seed, 30, 0.05)
            for composite in outer_composites(tree):
                row = members(tree, composite)
                for at, item in enumerate(row):
                    for text in ("", "o", "O", "ok", "OPEN", "x", "c", "say"):
                        matching = [other for other in row if tree.label(other).upper()[:len(text)] == text.upper()]
                        later = [other for other in matching if row.index(other) > at]
                        self.assertEqual((later + matching + [item])[0], found_by(tree, item, text))


if __name__ == "__main__":
    unittest.main()
