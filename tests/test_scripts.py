"""Points 33 and 35: the forms of deeds, and scripts."""

import random
import unittest

from chances import Chance
from keyfocus.deeds import Session
from keyfocus.errors import BadScript
from keyfocus.outlines import write_outline
from keyfocus.scripts import is_deed, read_script, write_script
from trees import KINDS, random_tree

PAIRS = (
    (("insert", "root", 0, "item", "ok", "OK"), 'insert root 0 item ok "OK"'),
    (("insert", "a.b_c-9", 59, "circular", "12345678", ""), 'insert a.b_c-9 59 circular 12345678 ""'),
    (("remove", "ok"), "remove ok"), (("show", "ok"), "show ok"), (("hide", "ok"), "hide ok"),
    (("enable", "ok"), "enable ok"), (("disable", "ok"), "disable ok"), (("open_layer", "pop"), "open_layer pop"),
    (("close_layer", "pop"), "close_layer pop"), (("focus", "ok"), "focus ok"), (("move", "ok", "root", 10), "move ok root 10"),
    (("set_label", "ok", 'say "no" \\ or'), 'set_label ok "say \\"no\\" \\\\ or"'),
    (("typeahead", "a  b"), 'typeahead "a  b"'), (("typeahead", ""), 'typeahead ""'), (("typeahead", "\\"), 'typeahead "\\\\"'),
    (("close_opening", 0), "close_opening 0"), (("close_opening", 1000000), "close_opening 1000000"),
    (("bind", "ok", "ctrl+k a", 'announce "x"'), 'bind ok "ctrl+k a" "announce \\"x\\""'),
    (("unbind", "ok", '"'), 'unbind ok "\\""'), (("press", "Tab"), 'press "Tab"'), (("press", ""), 'press ""'),
    (("execute", "focus ok"), 'execute "focus ok"'), (("execute", "x" * 100), 'execute "' + "x" * 100 + '"'),
    (("announce", "Saved", False), 'announce "Saved" polite'), (("announce", " ", True), 'announce " " assertive'),
    (("focus_next",), "focus_next"), (("focus_previous",), "focus_previous"), (("next_item",), "next_item"),
    (("previous_item",), "previous_item"), (("first_item",), "first_item"), (("last_item",), "last_item"), (("take",), "take"),
)
SAMPLES = {"name": "ok", "index": 3, "kind": "item", "label": "Label", "number": 7, "text": "text", "tone": True}
FORMS = {
    "insert": "name index kind name label", "remove": "name", "show": "name", "hide": "name", "enable": "name",
    "disable": "name", "open_layer": "name", "close_layer": "name", "focus": "name", "move": "name name index",
    "set_label": "name label", "typeahead": "label", "close_opening": "number", "bind": "name text text",
    "unbind": "name text", "press": "text", "execute": "text", "announce": "label tone", "focus_next": "",
    "focus_previous": "", "next_item": "", "previous_item": "", "first_item": "", "last_item": "", "take": "",
}
ANY = (None, True, False, 0, 1, 59, 60, -1, 1000000, 1000001, 1.0, "", "a", "12345678", "123456789", "A", "a b", "x" * 40,
       "x" * 41, "x" * 100, "x" * 101, "\n", "\x7f", "\t", "\u00e9", "item", "layer", "Item", "items", "polite", "0", b"a",
       (), ("a",), [], ["a"], {}, object)
FITTING = {
    "name": ("a", "12345678", "item", "layer", "items", "polite", "0"),
    "index": (0, 1, 59), "kind": ("item", "layer"),
    "label": ("", "a", "12345678", "123456789", "A", "a b", "x" * 40, "item", "layer", "Item", "items", "polite", "0"),
    "number": (0, 1, 59, 60, 1000000), "tone": (True, False),
    "text": ("", "a", "12345678", "123456789", "A", "a b", "x" * 40, "x" * 41, "x" * 100, "item", "layer", "Item", "items",
             "polite", "0"),
}


def fits(thing, form):
    return any(type(other) is type(thing) and other == thing for other in FITTING[form])


class IsDeedTest(unittest.TestCase):
    def test_each_word(self):
        for deed, _ in PAIRS:
            self.assertIs(True, is_deed(deed), deed)
        for kind in KINDS:
            self.assertIs(True, is_deed(("insert", "a", 0, kind, "b", "")))

    def test_every_form_of_every_argument(self):
        for word, forms in FORMS.items():
            good = [SAMPLES[form] for form in forms.split()]
            self.assertIs(True, is_deed((word, *good)))
            for at, form in enumerate(forms.split()):
                for thing in ANY:
                    deed = (word, *good[:at], thing, *good[at + 1:])
                    self.assertIs(fits(thing, form), is_deed(deed), deed)

    def test_the_bounds_of_numbers_and_texts(self):
        for number, expected in ((-1, False), (0, True), (59, True), (60, False), (10 ** 30, False)):
            self.assertIs(expected, is_deed(("move", "a", "b", number)))
        for number, expected in ((-1, False), (0, True), (1000000, True), (1000001, False), (10 ** 30, False)):
            self.assertIs(expected, is_deed(("close_opening", number)))
        for many, expected in ((0, True), (40, True), (41, True), (100, True), (101, False)):
            self.assertIs(expected, is_deed(("execute", " " * many)))
            self.assertIs(expected and many <= 40, is_deed(("typeahead", "~" * many)))

    def test_too_short_and_too_long(self):
        for word, forms in FORMS.items():
            good = [SAMPLES[form] for form in forms.split()]
            for more in ANY:
                self.assertIs(False, is_deed((word, *good, more)))
            if good:
                self.assertIs(False, is_deed((word, *good[:-1])))
                self.assertIs(False, is_deed((word, *good[1:])))
                self.assertIs(False, is_deed((word,)))

    def test_other_words(self):
        for word in ("", "edit", "Take", "take ", "undo", "nodes", "is_closed", "shortest_route", None, 1, True, ("take",), [],
                     b"take"):
            self.assertIs(False, is_deed((word,)), word)
            self.assertIs(False, is_deed((word, "ok")), word)

    def test_things_that_are_no_tuples(self):
        for thing in ANY + (["take"], ["focus", "ok"], "take", {"take": True}, ("take",)[0], iter(("take",))):
            self.assertIs(False, is_deed(thing), thing)
        self.assertIs(True, is_deed(("take",)))


class WriteTest(unittest.TestCase):
    def test_each_word(self):
        for deed, line in PAIRS:
            self.assertEqual(line, write_script([deed]))

    def test_several_lines(self):
        deeds = [deed for deed, _ in PAIRS]
        given = list(deeds)
        self.assertEqual("\n".join(line for _, line in PAIRS), write_script(deeds))
        self.assertEqual(given, deeds)

    def test_no_deeds(self):
        self.assertEqual("", write_script([]))


class ReadTest(unittest.TestCase):
    def assert_bad(self, line, text):
        with self.assertRaises(BadScript) as caught:
            read_script(text)
        self.assertEqual(line, caught.exception.line, text)

    def test_each_word(self):
        for deed, line in PAIRS:
            found = read_script(line)
            self.assertEqual([deed], found)
            self.assertEqual([type(part) for part in deed], [type(part) for part in found[0]])

    def test_several_lines(self):
        self.assertEqual([deed for deed, _ in PAIRS], read_script("\n".join(line for _, line in PAIRS)))

    def test_the_empty_script(self):
        for text in ("", "\n", " ", "   \n\n  \n", "\n\n\n"):
            self.assertEqual([], read_script(text))

    def test_spaces_without_meaning(self):
        expected = [("insert", "root", 0, "item", "ok", " a  b "), ("take",), ("announce", "x", True)]
        for text in (
            'insert root 0 item ok " a  b "\ntake\nannounce "x" assertive',
            '   insert root  0 item   ok   " a  b "   \n take  \nannounce    "x"  assertive  ',
            '\n\n  \ninsert root 0 item ok " a  b "\n\n   \ntake\n\nannounce "x" assertive\n \n',
        ):
            self.assertEqual(expected, read_script(text))

    def test_other_kinds_of_space(self):
        for text in ("take\t", "\ttake", "take\r", "focus\tok", "take\u00a0", "focus ok\x0b", "take\x0c", 'press\t"a"'):
            self.assert_bad(1, text)
        self.assert_bad(2, "take\ntake\r")

    def test_wrong_words(self):
        for text in ("Take", "TAKE", "tak", "takes", "edit ok", "focus_next_", '"take"', "take.", "undo", "nodes", "-", "polite",
                     "focusNext", "0", "take,take", "root"):
            self.assert_bad(1, text)

    def test_a_missing_or_a_further_part(self):
        for _, line in PAIRS:
            self.assert_bad(1, line + " ok")
            self.assert_bad(1, line + ' "ok"')
            self.assert_bad(1, line + " 0")
            self.assert_bad(1, line.split(" ")[0][:-1])
        for text in ("insert", 'insert root 0 item "OK"', 'insert root item ok "OK"', "insert root 0 item ok", "focus", "move",
                     "move ok root", "move ok 1", "announce", 'announce "x"', "announce polite", "bind ok", 'bind ok "a"',
                     'bind "a" "run x"', "close_opening", "typeahead", "press", "unbind ok", "take take", "take polite"):
            self.assert_bad(1, text)

    def test_numbers(self):
        for number in ("00", "01", "007", "-1", "+1", "-0", "+0", "1.0", "1e1", "0x1", "1_0", '"1"', "one", "\u0661", "\u00b2",
                       "10000001", "0000000", "01000000", "9" * 5000, "true", "True"):
            self.assert_bad(1, f"close_opening {number}")
            self.assert_bad(1, f"move ok root {number}")
        for number in (0, 9, 10, 59):
            self.assertEqual([("move", "ok", "root", number)], read_script(f"move ok root {number}"))
        for number in (60, 61, 100, 999, 1000000):
            self.assert_bad(1, f"move ok root {number}")
            self.assertEqual([("close_opening", number)], read_script(f"close_opening {number}"))
        self.assert_bad(1, "close_opening 1000001")

    def test_names_and_kinds(self):
        for name in ("OK", "123456789", '"ok"', "a,b", "\u00e9", "a\\b", "a=b", 'a"b'):
            self.assert_bad(1, f"focus {name}")
            self.assert_bad(1, f"move {name} root 0")
            self.assert_bad(1, f"move ok {name} 0")
            self.assert_bad(1, f'insert root 0 item {name} ""')
        for kind in ("Item", "items", '"item"', "button", "root", "0"):
            self.assert_bad(1, f'insert root 0 {kind} ok ""')

    def test_quoted_texts(self):
        for part, text in (('""', ""), ('" "', " "), ('"a b"', "a b"), ('"\\""', '"'), ('"\\\\"', "\\"), ('"\\\\\\""', '\\"'),
                           ('"\\" \\""', '" "'), ('"\\\\ \\\\"', "\\ \\"), ('"polite"', "polite"), ('"~!"', "~!")):
            for line, deed in ((f"typeahead {part}", ("typeahead", text)), (f"press  {part} ", ("press", text)),
                               (f"announce {part} polite", ("announce", text, False)),
                               (f'bind ok {part} "x"', ("bind", "ok", text, "x")), (f'bind ok "x" {part}', ("bind", "ok", "x", text))):
                self.assertEqual([deed], read_script(line))

    def test_texts_that_are_not_quoted(self):
        for part in ("a", "'a'", '"', '"a', 'a"', '"a""', '""a"', '"a"b', 'a"b"', '"a" b"', '"\\"', '"\\a"', '"\\\\\\"', '"a\\"', '"""',
                     '"""a', '"a"b"', '""""', '"a""b"', "\\\"a\"", '"a\tb"', '"\u00e9"', '"\x7f"', '"a"\\', '\\"a"'):
            for line in (f"typeahead {part}", f"press {part}", f"set_label ok {part}", f"announce {part} polite",
                         f'bind ok {part} "x"', f'bind ok "x" {part}', f'insert root 0 item ok {part}'):
                self.assert_bad(1, line)

    def test_the_bounds_of_texts(self):
        for many, label, text in ((40, True, True), (41, False, True), (100, False, True), (101, False, False)):
            for sign, quotation in (("x", "x"), ('"', '\\"'), ("\\", "\\\\"), (" ", " ")):
                for word, is_good in (("typeahead", label), ("press", text), ("execute", text)):
                    line = f'{word} "{quotation * many}"'
                    if is_good:
                        self.assertEqual([(word, sign * many)], read_script(line))
                    else:
                        self.assert_bad(1, line)

    def test_tones(self):
        for tone in ("Polite", "ASSERTIVE", "True", "False", "loud", '"polite"', "0", "1", "polit", "polite,", "politer"):
            self.assert_bad(1, f'announce "x" {tone}')
        self.assert_bad(1, 'announce polite "x"')

    def test_the_number_of_the_line(self):
        self.assert_bad(1, "none\nnone")
        self.assert_bad(2, "take\nnone\nnone")
        self.assert_bad(3, "take\ntake\nnone")
        self.assert_bad(3, "\n\nnone")
        self.assert_bad(5, "take\n\n   \n take \n none\ntake")
        self.assert_bad(4, ' \nfocus ok\n\nfocus "ok"')
        self.assert_bad(2, 'typeahead "a"\nb"')
        self.assert_bad(1, 'typeahead "a\nb"')

    def test_lists_are_not_shared(self):
        read_script("take").append(("take",))
        self.assertEqual([("take",)], read_script("take"))


class ThereAndBackTest(unittest.TestCase):
    def test_deeds_of_sessions(self):
        for seed in range(20):
            session = Session(write_outline(random_tree(seed, 12)))
            deeds = list(Chance(seed).deeds(session, 60))
            for deed in deeds:
                self.assertIs(True, is_deed(deed), deed)
            self.assertEqual(deeds, read_script(write_script(deeds)))

    def test_texts_of_all_signs(self):
        chance = random.Random(1)
        signs = [chr(number) for number in range(32, 127)] + ['"', "\\", " "] * 20
        for many in list(range(40)) * 5:
            text = "".join(chance.choice(signs) for _ in range(many))
            deeds = [("typeahead", text), ("bind", "ok", text, text), ("announce", text, True)]
            self.assertEqual(deeds, read_script(write_script(deeds)))

    def test_lines_of_random_signs(self):
        chance = random.Random(2)
        good = 0
        for _ in range(4000):
            line = 'typeahead "' + "".join(chance.choice('"\\ a') for _ in range(chance.randrange(7))) + '"'
            inside = line.removeprefix('typeahead "')[:-1].replace("\\\\", "").replace('\\"', "")
            if '"' in inside or "\\" in inside:
                with self.assertRaises(BadScript):
                    read_script(line)
            else:
                good += 1
                self.assertEqual(line, write_script(read_script(line)))
        self.assertGreater(good, 1000)


if __name__ == "__main__":
    unittest.main()
