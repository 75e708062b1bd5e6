"""The commands that key sequences are bound to."""

from keyfocus.syntax import is_name, unquoted

MOVEMENTS = ("focusNext", "focusPrevious", "nextItem", "previousItem", "firstItem", "lastItem")
_OTHER_WORDS_ALONE = ("closeTopLayer", "activate")
_WORDS_WITH_NAME = ("focus", "openLayer", "run")


def _command_alone(word):
    """The command that a word without an argument is, or None."""
    if word in MOVEMENTS or word in _OTHER_WORDS_ALONE:
        return word, ""
    return None


def _announcement(rest):
    """The command to announce what is quoted behind its word, or None."""
    label = unquoted(rest)
    if label is None:
        return None
    return "announce", label


def command_of(text):
    """The word and the argument of a command, or None if a text is no command."""
    word, space, rest = text.partition(" ")
    # Without this case a word with a lone space behind it would pass for the word alone.
    if space == "":
        return _command_alone(word)
    if word in _WORDS_WITH_NAME and is_name(rest):
        return word, rest
    if word == "announce":
        return _announcement(rest)
    return None
