"""Point 5: names, labels and quoted labels."""

import inspect
import itertools
import unittest

from keyfocus import syntax
from keyfocus.syntax import is_label, is_name, quoted, unquoted

NO_TEXTS = (None, True, False, 0, 1, 12, b"a", b"", [], ["a"], (), ("a",), {}, {"a": 1}, object())


class NameTest(unittest.TestCase):
    def test_names(self):
        for name in ("a", "z", "0", "9", ".", "_", "-", "ok", "a.b_c-d", "12345678", "........"):
            self.assertIs(True, is_name(name), name)

    def test_lengths(self):
        for length in range(12):
            self.assertIs(1 <= length <= 8, is_name("a" * length), length)

    def test_every_character_at_every_place(self):
        allowed = "abcdefghijklmnopqrstuvwxyz0123456789._-"
        for code in range(0x250):
            character = chr(code)
            for text in (character, character + "ab", "a" + character + "b", "ab" + character):
                self.assertIs(character in allowed, is_name(text), repr(text))

    def test_letters_and_digits_of_other_scripts(self):
        for character in ("\u00e9", "\u0430", "\u0663", "\u00b2", "\uff11", "\uff41", "\u212a"):
            self.assertIs(False, is_name(character))
            self.assertIs(False, is_name("a" + character))

    def test_parts_of_the_alphabet_are_judged_by_their_characters(self):
        self.assertIs(True, is_name("xyz0"))
        self.assertIs(True, is_name("zyx"))
        self.assertIs(False, is_name("ABC"))

    def test_other_values(self):
        for thing in NO_TEXTS:
            self.assertIs(False, is_name(thing), repr(thing))


class LabelTest(unittest.TestCase):
    def test_labels(self):
        for label in ("", " ", "~", "OK", 'a "b" c', "\\", '"', "a\\b", "   "):
            self.assertIs(True, is_label(label), label)

    def test_lengths(self):
        for length in (0, 1, 39, 40, 41, 42, 100):
            for character in ("a", " ", '"', "\\"):
                self.assertIs(length <= 40, is_label(character * length), length)

    def test_every_character_at_every_place(self):
        for code in range(0x250):
            character = chr(code)
            for text in (character, character + "ab", "a" + character + "b", "ab" + character):
                self.assertIs(32 <= code <= 126, is_label(text), repr(text))

    def test_characters_just_outside(self):
        for character in ("\x1f", "\x7f", "\n", "\t", "\r", "\u00a0", "\u2028"):
            self.assertIs(False, is_label(character))
            self.assertIs(False, is_label("a" * 39 + character))

    def test_other_values(self):
        for thing in NO_TEXTS:
            self.assertIs(False, is_label(thing), repr(thing))


class QuotedTest(unittest.TestCase):
    def test_quoted_labels(self):
        for label, text in (
            ("", '""'),
            (" ", '" "'),
            ("OK", '"OK"'),
            ('"', '"\\""'),
            ("\\", '"\\\\"'),
            ('\\"', '"\\\\\\""'),
            ('"\\', '"\\"\\\\"'),
            ("\\\\", '"\\\\\\\\"'),
            ('say "no" \\ go', '"say \\"no\\" \\\\ go"'),
            ("it's", '"it\'s"'),
            ("\\n", '"\\\\n"'),
        ):
            self.assertEqual(text, quoted(label))
            self.assertEqual(label, unquoted(text))

    def test_longer_texts_are_quoted_likewise(self):
        self.assertEqual('"' + "a" * 100 + '"', quoted("a" * 100))
        self.assertEqual('"' + '\\"' * 100 + '"', quoted('"' * 100))
        self.assertEqual('"' + "\\\\" * 41 + '"', quoted("\\" * 41))


class UnquotedTest(unittest.TestCase):
    def test_texts_near_a_quoted_label(self):
        for text in (
            "", " ", "a", '"', "OK", "\\", '\\"',
            '"OK', 'OK"', "'OK'", '"OK" ', ' "OK"', '"OK"a', 'a"OK"', '"OK"\n', '"OK""', '""OK"',
            '"""', '""""', '"a"b"', '"a" "b"', '""""""',
            '"\\"', '"a\\"', '"\\\\\\"', '"\\a"', '"a\\nb"', '"\\ "', '"\\\\\\a"', '"\\', '"\\\\',
            '"\\\\""', '"\\""a', '\\"a\\"',
        ):
            self.assertIsNone(unquoted(text), text)

    def test_every_short_text(self):
        characters = ('"', "\\", "a", " ")
        labels = {}
        for length in range(7):
            for chosen in itertools.product(characters, repeat=length):
                label = "".join(chosen)
                self.assertNotIn(quoted(label), labels)
                labels[quoted(label)] = label
        for length in range(9):
            for chosen in itertools.product(characters, repeat=length):
                text = "".join(chosen)
                self.assertEqual(labels.get(text), unquoted(text), text)

    def test_lengths(self):
        for length in (0, 1, 39, 40):
            for character in ("a", " ", '"', "\\"):
                label = character * length
                self.assertEqual(label, unquoted(quoted(label)))
        for length in (41, 42, 80, 100):
            for character in ("a", " ", '"', "\\"):
                self.assertIsNone(unquoted(quoted(character * length)))

    def test_every_character(self):
        for code in range(0x250):
            label = "a" + chr(code) + "b"
            self.assertEqual(label if 32 <= code <= 126 else None, unquoted(quoted(label)))

    def test_a_label_of_all_characters_in_parts(self):
        everything = "".join(chr(code) for code in range(32, 127))
        for start in range(len(everything)):
            label = everything[start:start + 40]
            self.assertEqual(label, unquoted(quoted(label)))


class InterfaceTest(unittest.TestCase):
    def test_names_and_arguments(self):
        for name, arguments in (("is_name", ["thing"]), ("is_label", ["thing"]),
                                ("quoted", ["label"]), ("unquoted", ["text"])):
            function = getattr(syntax, name)
            self.assertEqual("keyfocus.syntax", function.__module__)
            self.assertEqual(arguments, list(inspect.signature(function).parameters))


if __name__ == "__main__":
    unittest.main()
