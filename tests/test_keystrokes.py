"""Points 6 and 7: keystrokes and key sequences."""

import inspect
import itertools
import unittest

from keyfocus import keystrokes
from keyfocus.errors import BadKeys
from keyfocus.keystrokes import is_prefix, key_sequence, keystroke, shown

MODIFIERS = ("Ctrl", "Alt", "Shift", "Meta")
KEY_NAMES = (
    "Tab", "Enter", "Escape", "Space", "Backspace", "Delete", "Up", "Down", "Left", "Right",
    "Home", "End", "PageUp", "PageDown", "Plus", "F1", "F2", "F3", "F4", "F5", "F6", "F7", "F8",
    "F9", "F10", "F11", "F12",
)
SIGNS = [chr(code) for code in range(33, 127) if chr(code) != "+"]


def mixtures(text):
    """Some of the ways to write a text in upper and lower case letters."""
    halves = "".join(c.upper() if at % 2 else c.lower() for at, c in enumerate(text))
    return (text, text.lower(), text.upper(), halves, halves.swapcase())


class KeysTest(unittest.TestCase):
    def assert_wrong(self, function, text, what):
        with self.assertRaises(BadKeys) as caught:
            function(text)
        self.assertEqual(what, caught.exception.what, text)

    def assert_no_keystroke(self, text):
        self.assert_wrong(keystroke, text, "invalid keystroke")

    def assert_no_sequence(self, text):
        self.assert_wrong(key_sequence, text, "invalid key sequence")


class KeystrokeTest(KeysTest):
    def test_single_characters(self):
        for code in range(0x250):
            character = chr(code)
            if character in SIGNS:
                canonical = character
                if "a" <= character <= "z":
                    canonical = chr(code - 32)
                self.assertEqual(canonical, keystroke(character))
                self.assertEqual("Ctrl+" + canonical, keystroke("ctrl+" + character))
            else:
                self.assert_no_keystroke(character)
                self.assert_no_keystroke("Ctrl+" + character)

    def test_the_keys_minus_and_plus(self):
        self.assertEqual("-", keystroke("-"))
        self.assertEqual("Ctrl+-", keystroke("ctrl+-"))
        self.assertEqual("Plus", keystroke("plus"))
        self.assertEqual("Ctrl+Plus", keystroke("Ctrl+PLUS"))
        for text in ("+", "++", "Ctrl++", "Ctrl+++", "+Plus", "Plus+", "Ctrl-A"):
            self.assert_no_keystroke(text)

    def test_key_names_in_any_mixture_of_cases(self):
        for name in KEY_NAMES:
            for text in mixtures(name):
                self.assertEqual(name, keystroke(text))
                self.assertEqual("Alt+" + name, keystroke("alt+" + text))

    def test_texts_near_key_names(self):
        for text in ("F0", "F13", "F00", "F01", "F012", "F1.", "F-1", "F 1", "F20", "F123", "FF",
                     "Esc", "Del", "Return", "Page", "PageUpp", "Page Up", "Tabs", "Ta", "Spac",
                     "Minus", "ab", "12", "1F", "Control", "Insert", "Pgup"):
            self.assert_no_keystroke(text)
        self.assertEqual("F", keystroke("f"))

    def test_modifiers_in_any_order_and_mixture_of_cases(self):
        for count in range(5):
            for chosen in itertools.permutations(MODIFIERS, count):
                ordered = [modifier for modifier in MODIFIERS if modifier in chosen]
                for key in ("k", "K", "tab", "Plus", "-", "f12", "1"):
                    canonical = "+".join(ordered + [keystroke(key)])
                    for text in mixtures("+".join([*chosen, key])):
                        self.assertEqual(canonical, keystroke(text))

    def test_each_modifier_before_each_key(self):
        for modifier in MODIFIERS:
            for key in [*SIGNS, *KEY_NAMES]:
                canonical = key.upper() if len(key) == 1 else key
                self.assertEqual(modifier + "+" + canonical, keystroke(modifier + "+" + key))

    def test_a_modifier_twice(self):
        for modifier in MODIFIERS:
            for other in MODIFIERS:
                for text in (f"{modifier}+{modifier.lower()}+a", f"{modifier}+{other}+{modifier}+a",
                             f"{other}+{modifier}+{modifier.upper()}+Tab"):
                    self.assert_no_keystroke(text)
        self.assert_no_keystroke("Ctrl+Alt+Shift+Meta+Ctrl+a")

    def test_modifiers_are_no_keys_and_keys_no_modifiers(self):
        for modifier in MODIFIERS:
            self.assert_no_keystroke(modifier)
            self.assert_no_keystroke("A+" + modifier)
            for other in MODIFIERS:
                self.assert_no_keystroke(other + "+" + modifier)
        for text in ("a+b", "Tab+a", "a+Ctrl+b", "Ctrl+a+b", "Ctrl+a+Alt", "Hyper+a", "Ctl+a",
                     "Cmd+a", "Shift+Tab+a"):
            self.assert_no_keystroke(text)

    def test_empty_parts(self):
        for text in ("", "+a", "Ctrl+", "Ctrl++a", "+Ctrl+a", "Ctrl+Alt+", "+++", "Ctrl+Alt++a"):
            self.assert_no_keystroke(text)

    def test_spaces_and_other_characters_around(self):
        for text in (" ", "  ", " a", "a ", "Ctrl +a", "Ctrl+ a", " Ctrl+a", "Ctrl+a ", "Ctrl a",
                     "\ta", "a\n", "Ctrl+\n", "Tab\n", "Ctrl\n+a", "Ctrl+\u00e9"):
            self.assert_no_keystroke(text)

    def test_the_canonical_form_denotes_itself(self):
        for text in [*SIGNS, *KEY_NAMES, "meta+shift+alt+ctrl+plus"]:
            canonical = keystroke(text)
            self.assertEqual(canonical, keystroke(canonical))


class KeySequenceTest(KeysTest):
    def test_one_to_three_keystrokes(self):
        self.assertEqual(("A",), key_sequence("a"))
        self.assertEqual(("Ctrl+K", "S"), key_sequence("ctrl+k s"))
        self.assertEqual(("Ctrl+K", "S", "Shift+Tab"), key_sequence("ctrl+k s shift+TAB"))
        self.assertEqual(("A", "A", "A"), key_sequence("a A a"))
        self.assertEqual(("Space",), key_sequence("space"))

    def test_a_tuple_is_returned(self):
        for text in ("a", "a b", "a b c"):
            self.assertIs(tuple, type(key_sequence(text)))

    def test_no_keystrokes_and_too_many(self):
        for text in ("", " ", "     ", "a b c d", " a  b c   d ", "a a a a", "a b c d e f"):
            self.assert_no_sequence(text)

    def test_any_spaces_around_and_between(self):
        for many in range(4):
            for before, between, behind in itertools.product(range(4), range(1, 4), range(4)):
                parts = ["ctrl+a", "B", "tab"][:many]
                text = " " * before + (" " * between).join(parts) + " " * behind
                if many == 0:
                    self.assert_no_sequence(text)
                else:
                    self.assertEqual(("Ctrl+A", "B", "Tab")[:many], key_sequence(text))

    def test_a_wrong_keystroke_at_each_place(self):
        for wrong in ("F13", "+", "Ctrl+", "Ctrl", "ctrl+ctrl+a", "a+b", "ab", "\u00e9"):
            for parts in ([wrong], [wrong, "a"], ["a", wrong], [wrong, "a", "b"],
                          ["a", wrong, "b"], ["a", "b", wrong], ["a", "b", "c", wrong]):
                self.assert_no_sequence(" ".join(parts))

    def test_spaces_within_a_keystroke(self):
        for text in ("Ctrl + a", "Ctrl+ a", "Ctrl +a"):
            self.assert_no_sequence(text)

    def test_only_spaces_separate(self):
        for text in ("a\nb", "a\tb", "\ta", "a\n", "\n", "a,b", "a\u00a0b"):
            self.assert_no_sequence(text)

    def test_the_example_of_the_document(self):
        self.assertEqual("Ctrl+Shift+K", keystroke("shift+ctrl+k"))
        self.assertEqual(("Ctrl+K", "Ctrl+S"), key_sequence(" ctrl+k Ctrl+s "))


class PrefixTest(unittest.TestCase):
    def test_a_sequence_is_a_prefix_of_itself(self):
        for strokes in (("A",), ("A", "B"), ("A", "B", "C")):
            self.assertIs(True, is_prefix(strokes, strokes))
            self.assertIs(True, is_prefix(strokes, tuple(list(strokes))))

    def test_longer_and_shorter_sequences(self):
        for one, two in ((("A",), ("A", "B")), (("A",), ("A", "B", "C")),
                         (("A", "B"), ("A", "B", "C")), (("A",), ("A", "A"))):
            self.assertIs(True, is_prefix(one, two))
            self.assertIs(False, is_prefix(two, one))

    def test_all_short_sequences(self):
        sequences = []
        for length in (1, 2, 3):
            sequences.extend(itertools.product(("A", "B", "Ctrl+A"), repeat=length))
        for one in sequences:
            for two in sequences:
                expected = list(two)[:len(one)] == list(one)
                self.assertIs(expected, is_prefix(one, two), (one, two))

    def test_keystrokes_are_compared_as_a_whole(self):
        self.assertIs(False, is_prefix(("F1",), ("F12",)))
        self.assertIs(False, is_prefix(("F",), ("F1", "A")))
        self.assertIs(False, is_prefix(("B",), ("A", "B")))
        self.assertIs(False, is_prefix(("A", "C"), ("A", "B", "C")))


class ShownTest(unittest.TestCase):
    def test_sequences(self):
        self.assertEqual("", shown(()))
        self.assertEqual("A", shown(("A",)))
        self.assertEqual("Ctrl+K Ctrl+S", shown(("Ctrl+K", "Ctrl+S")))
        self.assertEqual("Ctrl+K S Plus", shown(("Ctrl+K", "S", "Plus")))

    def test_what_is_shown_denotes_the_sequence(self):
        for text in ("a", "  ctrl+k   s ", "meta+alt+plus - f12"):
            strokes = key_sequence(text)
            self.assertEqual(strokes, key_sequence(shown(strokes)))
        self.assertEqual("Alt+Meta+Plus - F12", shown(key_sequence(" meta+alt+plus   -  f12 ")))


class InterfaceTest(unittest.TestCase):
    def test_names_and_arguments(self):
        for name, arguments in (("keystroke", ["text"]), ("key_sequence", ["text"]),
                                ("is_prefix", ["one", "two"]), ("shown", ["strokes"])):
            function = getattr(keystrokes, name)
            self.assertEqual("keyfocus.keystrokes", function.__module__)
            self.assertEqual(arguments, list(inspect.signature(function).parameters))


if __name__ == "__main__":
    unittest.main()
