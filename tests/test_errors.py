"""Points 3 and 4, and the interface's section on errors."""

import inspect
import unittest

from keyfocus import errors
from keyfocus.errors import BadKeys, BadOutline, BadScript, FocusError, Refused


class ErrorsTest(unittest.TestCase):
    def test_all_derive_from_the_base_class(self):
        for kind in (Refused, BadOutline, BadScript, BadKeys):
            self.assertEqual((FocusError,), kind.__bases__)
        self.assertEqual((ValueError,), FocusError.__bases__)

    def test_no_error_is_another_one(self):
        made = (Refused("unknown node"), BadOutline(0), BadScript(1), BadKeys("invalid keystroke"))
        kinds = (Refused, BadOutline, BadScript, BadKeys)
        for at, error in enumerate(made):
            self.assertEqual([kinds[at]], [kind for kind in kinds if isinstance(error, kind)])

    def test_each_has_the_value_that_it_is_made_with(self):
        self.assertEqual("unknown node", Refused("unknown node").what)
        self.assertEqual("invalid key sequence", BadKeys("invalid key sequence").what)
        for line in (0, 1, 7, 1000000):
            self.assertEqual(line, BadOutline(line).line)
            self.assertEqual(line, BadScript(line).line)

    def test_the_value_is_set_on_each_object(self):
        for error, name in ((Refused("a"), "what"), (BadKeys("a"), "what"),
                            (BadOutline(2), "line"), (BadScript(2), "line")):
            self.assertEqual([name], list(vars(error)))
        first, second = Refused("first"), Refused("second")
        self.assertEqual(("first", "second"), (first.what, second.what))

    def test_the_values_have_their_names(self):
        for kind, name in ((Refused, "what"), (BadKeys, "what"),
                           (BadOutline, "line"), (BadScript, "line")):
            self.assertEqual([name], list(inspect.signature(kind).parameters))

    def test_each_can_be_raised_and_caught_as_the_base_class(self):
        for error in (Refused("a"), BadOutline(0), BadScript(1), BadKeys("a"), FocusError("a")):
            with self.assertRaises(FocusError) as caught:
                raise error
            self.assertIs(error, caught.exception)

    def test_each_message_tells_the_value(self):
        for error, told in ((Refused("no deed"), "no deed"), (BadKeys("no keys"), "no keys"),
                            (BadOutline(12), "12"), (BadScript(34), "34")):
            self.assertIn(told, str(error))

    def test_each_is_defined_in_its_file(self):
        for name in ("FocusError", "Refused", "BadOutline", "BadScript", "BadKeys"):
            self.assertEqual("keyfocus.errors", getattr(errors, name).__module__)


if __name__ == "__main__":
    unittest.main()
