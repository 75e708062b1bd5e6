"""Point 8: the movement commands and the commands."""

import inspect
import unittest

from keyfocus import commands
from keyfocus.commands import MOVEMENTS, command_of
from keyfocus.syntax import quoted

WORDS_ALONE = ("focusNext", "focusPrevious", "nextItem", "previousItem", "firstItem", "lastItem",
               "closeTopLayer", "activate")
WORDS_WITH_NAME = ("focus", "openLayer", "run")


class MovementsTest(unittest.TestCase):
    def test_they_stand_in_the_order_of_the_document(self):
        self.assertEqual(("focusNext", "focusPrevious", "nextItem", "previousItem", "firstItem",
                          "lastItem"), MOVEMENTS)
        self.assertIs(tuple, type(MOVEMENTS))


class CommandOfTest(unittest.TestCase):
    def assert_no_command(self, text):
        self.assertIsNone(command_of(text), text)

    def test_words_alone(self):
        for word in WORDS_ALONE:
            self.assertEqual((word, ""), command_of(word))
            self.assertIs(tuple, type(command_of(word)))

    def test_words_alone_with_anything_else(self):
        for word in WORDS_ALONE:
            for text in (word + " ", " " + word, word + " a", word + ' "a"', word + "  ", word + "\n",
                         word.lower(), word.upper(), word[:-1], word + "s", word + " " + word):
                if text not in WORDS_ALONE:
                    self.assert_no_command(text)

    def test_words_with_a_name(self):
        for word in WORDS_WITH_NAME:
            for name in ("a", "ok", "12345678", ".", "_", "-", "a.b-c_d", "focus", "run"):
                self.assertEqual((word, name), command_of(word + " " + name))

    def test_words_with_a_missing_name(self):
        for word in WORDS_WITH_NAME:
            for text in (word, word + " ", word + "  "):
                self.assert_no_command(text)

    def test_words_with_a_wrong_name(self):
        for word in WORDS_WITH_NAME:
            for name in ("123456789", "A", "Ok", "a+b", '"a"', "a\n", "\na", "\ta", "\u00e9", '""'):
                self.assert_no_command(word + " " + name)

    def test_words_with_a_name_and_anything_else(self):
        for word in WORDS_WITH_NAME:
            for text in (word + " a b", word + " a ", word + "  a", " " + word + " a", word + "a",
                         word + "\ta", word + "\na", word.upper() + " a", word + ' a "b"'):
                self.assert_no_command(text)

    def test_announce_with_a_label(self):
        for label in ("", " ", "Saved", 'a "b" c', "\\", '"', "two  spaces", " around ", "a" * 40):
            self.assertEqual(("announce", label), command_of("announce " + quoted(label)))

    def test_announce_with_a_missing_or_wrong_label(self):
        for text in ("announce", "announce ", "announce  ", "announce Saved", 'announce "Saved',
                     'announce Saved"', 'announce "', "announce 'a'", 'announce "a"b"',
                     'announce "\\a"', 'announce "\\"', 'announce "a\nb"', 'announce "a\u00e9"',
                     "announce " + quoted("a" * 41)):
            self.assert_no_command(text)

    def test_announce_with_a_label_and_anything_else(self):
        for text in ('announce  "a"', 'announce "a" ', 'announce "a" "b"', 'announce "a" b',
                     ' announce "a"', 'announce"a"', 'announce\t"a"', 'Announce "a"',
                     'announce a "b"'):
            self.assert_no_command(text)

    def test_other_texts(self):
        for text in ("", " ", "  ", "a", "press a", "focusnext", "FocusNext", "openlayer a",
                     "closeLayer a", "close_layer a", "typeahead", 'typeahead "a"', "open_layer a",
                     "focus_next", "move a", '"activate"', "focus,a", "focusNext,activate"):
            self.assert_no_command(text)

    def test_it_stands_in_its_file_with_its_argument(self):
        self.assertEqual("keyfocus.commands", commands.command_of.__module__)
        self.assertEqual(["text"], list(inspect.signature(command_of).parameters))


if __name__ == "__main__":
    unittest.main()
