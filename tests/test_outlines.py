"""Point 11, and 3 and 4 for outlines: reading and writing them, and the first invalid line."""

import re
import unittest

from keyfocus.errors import BadOutline
from keyfocus.outlines import parse_outline, write_outline
from keyfocus.syntax import quoted
from keyfocus.tree import Tree, new_tree
from trees import KINDS, random_tree, told

FIRST = 'layer root "Root"'
FLAGS = (("", True, True), (" hidden", False, True), (" disabled", True, False), (" hidden disabled", False, False))
LINE = re.compile('((?:  )*)(item|container|linear|circular|layer) ([a-z0-9._-]{1,8}) '
                  '"((?:[ !#-\\[\\]-~]|\\\\"|\\\\\\\\){0,40})"(?: hidden)?(?: disabled)?')
SAMPLE = "\n".join((
    FIRST,
    '  item ok "OK"',
    '  circular list "Fruits" disabled',
    '    item apple "Apple" hidden',
    '    container box "A \\"box\\" \\\\"',
    '      item pear "Pear" hidden disabled',
    '  layer dialog "Pay"',
    '    linear bar ""',
))


def first_invalid_line(text):
    """The first line of a text that is no outline, told by a pattern for lines; None for an outline."""
    path, names = [], []
    for at, line in enumerate(text.split("\n")):
        match = LINE.fullmatch(line)
        if match is None or len(names) == 60:
            return at
        depth, kind, name = len(match[1]) // 2, match[2], match[3]
        if at == 0 and not re.fullmatch('layer root ".*"', line):
            return at
        if at > 0 and not 1 <= depth <= min(len(path), 8):
            return at
        if name in names or (at > 0 and path[depth - 1] == "item"):
            return at
        path[depth:] = [kind]
        names.append(name)
    return None


class OutlineTest(unittest.TestCase):
    def assert_bad(self, line, text):
        with self.assertRaises(BadOutline, msg=text) as caught:
            parse_outline(text)
        self.assertEqual(line, caught.exception.line, text)

    def assert_bad_lines(self, line, *lines):
        self.assert_bad(line, "\n".join(lines))

    def assert_outline(self, text):
        tree = parse_outline(text)
        self.assertIsInstance(tree, Tree)
        self.assertEqual(text, write_outline(tree))
        return tree


class ReadAndWriteTest(OutlineTest):
    def test_the_root_alone(self):
        for label in ("", "Shop", 'a "b" \\', " hidden", "a" * 40):
            tree = self.assert_outline("layer root " + quoted(label))
            self.assertEqual([("root", "layer", label, True, True, 0)], tree.infos())
            self.assertEqual("layer root " + quoted(label), write_outline(new_tree(label)))

    def test_a_sample(self):
        tree = self.assert_outline(SAMPLE)
        self.assertEqual([
            ("root", "layer", "Root", True, True, 0),
            ("ok", "item", "OK", True, True, 1),
            ("list", "circular", "Fruits", True, False, 1),
            ("apple", "item", "Apple", False, True, 2),
            ("box", "container", 'A "box" \\', True, True, 2),
            ("pear", "item", "Pear", False, False, 3),
            ("dialog", "layer", "Pay", True, True, 1),
            ("bar", "linear", "", True, True, 2),
        ], tree.infos())
        self.assertEqual(["ok", "list", "dialog"], tree.children("root"))
        self.assertEqual("box", tree.parent("pear"))

    def test_every_kind_with_every_flag(self):
        for kind in KINDS:
            for ending, visible, enabled in FLAGS:
                tree = self.assert_outline(f'{FIRST}\n  {kind} a "A"{ending}')
                self.assertEqual(("a", kind, "A", visible, enabled, 1), tree.infos()[1])
                self.assertIs(visible, tree.is_visible("a"))
                self.assertIs(enabled, tree.is_enabled("a"))

    def test_labels(self):
        labels = ["", " ", "  ", '"', "\\", '\\"', '"\\', '""', "\\\\", " hidden", " disabled", '" hidden',
                  '" disabled', 'x" hidden disabled', "a" * 40, '"' * 40, "\\" * 40, " " * 40]
        labels.extend(chr(code) for code in range(32, 127))
        for label in labels:
            for ending, visible, enabled in FLAGS:
                tree = self.assert_outline(f"{FIRST}\n  item a {quoted(label)}{ending}")
                self.assertEqual(("a", "item", label, visible, enabled, 1), tree.infos()[1])

    def test_names(self):
        for name in ("a", "z9", ".", "_", "-", "a.b_c-d", "12345678", "item", "layer", "hidden", "disabled"):
            tree = self.assert_outline(f'{FIRST}\n  item {name} ""')
            self.assertEqual(["root", name], tree.names())

    def test_depths_up_to_8(self):
        lines = [FIRST]
        for depth in range(1, 9):
            lines.append("  " * depth + f'container c{depth} ""')
            tree = self.assert_outline("\n".join(lines))
            self.assertEqual(depth, tree.depth(f"c{depth}"))
        for depth in range(8, 0, -1):
            tree = self.assert_outline("\n".join(lines) + "\n" + "  " * depth + 'item last ""')
            self.assertEqual(depth, tree.depth("last"))

    def test_60_nodes(self):
        lines = [FIRST] + [f'  item n{number} ""' for number in range(59)]
        self.assertEqual(60, len(self.assert_outline("\n".join(lines)).names()))

    def test_trees_that_were_edited(self):
        for seed in range(30):
            tree = random_tree(seed, 40, 0.3)
            text = write_outline(tree)
            before = told(tree)
            self.assertEqual(before, told(self.assert_outline(text)))
            self.assertEqual(before, told(tree))

    def test_a_tree_that_is_edited_after_it_was_read(self):
        tree = parse_outline(SAMPLE)
        other = parse_outline(SAMPLE)
        tree.move("box", "bar", 0)
        tree.set_flag("list", "enabled", True)
        tree.set_label("root", "Shop")
        self.assertEqual(SAMPLE, write_outline(other))
        self.assertEqual("\n".join((
            'layer root "Shop"', '  item ok "OK"', '  circular list "Fruits"', '    item apple "Apple" hidden',
            '  layer dialog "Pay"', '    linear bar ""', '      container box "A \\"box\\" \\\\"',
            '        item pear "Pear" hidden disabled',
        )), write_outline(tree))


class InvalidTest(OutlineTest):
    def test_the_first_line(self):
        for line in ("", " ", "a", "root", "layer", "layer root", "layer root ", 'layer root"Root"', '"Root"',
                     'layer main "Root"', 'Layer root "Root"', 'layer Root "Root"', 'layer root Root',
                     'layer  root "Root"', 'layer root  "Root"', ' layer root "Root"', '  layer root "Root"',
                     'layer root "Root" ', 'layer root "Root', 'layer root Root"', 'layer root "Ro"ot"',
                     'layer root "Root" hidden', 'layer root "Root" disabled', 'layer root "Root" hidden disabled',
                     'layer root "' + "a" * 41 + '"', 'layer root "a\tb"', 'layer root "\\a"', "layer root 'Root'"):
            self.assert_bad(0, line)
            self.assert_bad_lines(0, line, '  item a ""')
        for kind in KINDS[:-1]:
            self.assert_bad(0, f'{kind} root "Root"')

    def test_no_root(self):
        self.assert_bad(0, "\n" + FIRST)
        self.assert_bad(0, "\n")
        self.assert_bad_lines(0, '  item a ""', FIRST)

    def test_a_second_root(self):
        self.assert_bad_lines(1, FIRST, 'layer root "Root"')
        self.assert_bad_lines(1, FIRST, 'layer other "Root"')
        self.assert_bad_lines(2, FIRST, '  item a ""', 'item b ""')
        self.assert_bad_lines(2, FIRST, '  layer a ""', '    layer root ""')

    def test_indentation(self):
        for spaces in (0, 1, 3, 4, 5, 6):
            self.assert_bad_lines(1, FIRST, " " * spaces + 'item b ""')
        for spaces in (0, 1, 3, 5, 6, 7, 8):
            self.assert_bad_lines(2, FIRST, '  container a ""', " " * spaces + 'item b ""', '  item c ""')
        for spaces in (2, 4):
            self.assert_outline("\n".join((FIRST, '  container a ""', " " * spaces + 'item b ""')))
        self.assert_bad_lines(3, FIRST, '  container a ""', '  container b ""', '      item c ""')
        self.assert_bad_lines(1, FIRST, '\titem b ""')
        self.assert_bad_lines(1, FIRST, ' \titem b ""')

    def test_kinds(self):
        for kind in ("", "Item", "items", "ite", "button", "layers", "composite", "hidden", "linear item"):
            self.assert_bad_lines(1, FIRST, f'  {kind} a ""')
        for code in range(32, 127):
            self.assert_bad_lines(1, FIRST, f'  {chr(code) * 2}item a ""')

    def test_names(self):
        for name in ("", "A", "123456789", "a+b", '"a"', "a b", "\u00e9", "a\t", "a/b"):
            self.assert_bad_lines(1, FIRST, f'  item {name} ""')
        self.assert_bad_lines(1, FIRST, '  item  a ""')

    def test_labels(self):
        for label in ("", "a", '"', '"a', 'a"', '"a"b"', '"a\\"', '"\\a"', '"a\\\\\\"', '""""', "'a'", '"a\tb"',
                      '"\u00e9"', '"\x7f"', quoted("a" * 41), quoted('"' * 41), ' "a"', '"a" ', '"a" "b"', '"a"b'):
            self.assert_bad_lines(1, FIRST, f"  item a {label}")
            self.assert_bad_lines(1, FIRST, f"  item a {label} hidden")
        self.assert_bad_lines(1, FIRST, '  item a""')
        self.assert_bad_lines(1, FIRST, "  item a")

    def test_flags(self):
        for flags in (" disabled hidden", " hidden hidden", " disabled disabled", " hidden disabled hidden",
                      " hidden hidden disabled", " hidden disabled disabled", "hidden", "disabled", "  hidden",
                      " hidden ", " hidden  disabled", " Hidden", " hiddendisabled", " visible", " enabled",
                      " hidden,disabled", " hid", " hidden\t", " hidden a"):
            self.assert_bad_lines(1, FIRST, f'  item a ""{flags}')

    def test_a_name_twice(self):
        self.assert_bad_lines(2, FIRST, '  item a ""', '  item a ""')
        self.assert_bad_lines(3, FIRST, '  layer a ""', '    item b ""', '  linear b ""')
        self.assert_bad_lines(2, FIRST, '  layer a ""', '    item a ""')
        self.assert_bad_lines(1, FIRST, '  layer root ""')

    def test_a_child_of_an_item(self):
        self.assert_bad_lines(2, FIRST, '  item a ""', '    item b ""')
        self.assert_bad_lines(4, FIRST, '  layer a ""', '    item b ""', '    item c ""', '      item d ""')
        self.assert_outline("\n".join((FIRST, '  layer a ""', '    item b ""', '  item c ""')))

    def test_a_line_behind_the_60th_node(self):
        lines = [FIRST] + [f'  item n{number} ""' for number in range(59)]
        self.assert_bad_lines(60, *lines, '  item more ""')
        self.assert_bad_lines(60, *lines, '  item more ""', '  item again ""')
        self.assert_bad_lines(60, *lines, "")

    def test_a_depth_of_9(self):
        lines = [FIRST] + ["  " * depth + f'container c{depth} ""' for depth in range(1, 9)]
        for kind in KINDS:
            self.assert_bad_lines(9, *lines, "  " * 9 + f'{kind} a ""')

    def test_empty_lines_and_newlines(self):
        self.assert_bad(1, FIRST + "\n")
        self.assert_bad(2, FIRST + '\n  item a ""\n')
        self.assert_bad(2, FIRST + '\n  item a ""\n\n')
        self.assert_bad(1, FIRST + '\n\n  item a ""')
        self.assert_bad(1, FIRST + '\n  \n  item a ""')
        self.assert_bad(1, FIRST + "\n    ")
        for sign in ("\r", "\x0b", "\x0c", "\x1c", "\x85", "\u2028"):
            self.assert_bad(0, FIRST + sign)
            self.assert_bad(0, FIRST + sign + '  item a ""')
            self.assert_bad(1, FIRST + '\n  item a ""' + sign + '\n  item b ""')

    def test_the_first_of_several_invalid_lines(self):
        self.assert_bad_lines(1, FIRST, "  item", '  item a ""', "  item")
        self.assert_bad_lines(2, FIRST, '  item a ""', '  item a ""', "", 'item b ""')

    def test_the_pattern_takes_the_sample(self):
        self.assertIsNone(first_invalid_line(SAMPLE))

    def test_texts_near_an_outline(self):
        lines = SAMPLE.split("\n")
        texts = []
        for at in range(len(SAMPLE)):
            texts.append(SAMPLE[:at] + SAMPLE[at + 1:])
            for sign in (" ", '"', "\\", "\n", "a", "R", "  ", " hidden", "\t"):
                texts.append(SAMPLE[:at] + sign + SAMPLE[at:])
                texts.append(SAMPLE[:at] + sign + SAMPLE[at + 1:])
        for at in range(len(lines)):
            for other in range(len(lines) + 1):
                rest = lines[:at] + lines[at + 1:]
                texts.append("\n".join(rest[:other] + [lines[at]] + rest[other:]))
                texts.append("\n".join(lines[:other] + [lines[at]] + lines[other:]))
            for change in (lambda line: "  " + line, lambda line: line[2:], lambda line: line + " disabled",
                           lambda line: line + " hidden", lambda line: line.strip(), lambda line: line.upper()):
                texts.append("\n".join(lines[:at] + [change(lines[at])] + lines[at + 1:]))
        wrong = 0
        for text in texts:
            line = first_invalid_line(text)
            if line is None:
                self.assert_outline(text)
            else:
                self.assert_bad(line, text)
                wrong += 1
        self.assertGreater(wrong, 1000)
        self.assertGreater(len(texts) - wrong, 100)


if __name__ == "__main__":
    unittest.main()
