"""Keystrokes and key sequences, and their canonical forms."""

from keyfocus.errors import BadKeys

_MODIFIERS = ("Ctrl", "Alt", "Shift", "Meta")
_KEY_NAMES = (
    "Tab", "Enter", "Escape", "Space", "Backspace", "Delete",
    "Up", "Down", "Left", "Right", "Home", "End", "PageUp", "PageDown", "Plus",
    "F1", "F2", "F3", "F4", "F5", "F6", "F7", "F8", "F9", "F10", "F11", "F12",
)
_LONGEST_SEQUENCE = 3


def _spelled(part, names):
    """The one of some names that a part spells in any mixture of cases, or None."""
    for name in names:
        if name.lower() == part.lower():
            return name
    return None


def _key_of(part):
    """The key that the last part of a keystroke denotes, or None."""
    # The key + needs no test here: a text is split at each +, so it is never a part.
    if len(part) == 1 and "!" <= part <= "~":
        return part.upper()
    return _spelled(part, _KEY_NAMES)


def _canonical(text):
    """The canonical form of the keystroke that a text denotes, or None."""
    parts = text.split("+")
    key = _key_of(parts[-1])
    modifiers = [_spelled(part, _MODIFIERS) for part in parts[:-1]]
    if key is None or None in modifiers or len(set(modifiers)) < len(modifiers):
        return None
    ordered = [modifier for modifier in _MODIFIERS if modifier in modifiers]
    return "+".join([*ordered, key])


def keystroke(text):
    """The canonical form of a keystroke."""
    stroke = _canonical(text)
    if stroke is None:
        raise BadKeys("invalid keystroke")
    return stroke


def key_sequence(text):
    """The tuple of the canonical forms of the keystrokes of a sequence."""
    strokes = [_canonical(part) for part in text.split(" ") if part != ""]
    if not 1 <= len(strokes) <= _LONGEST_SEQUENCE or None in strokes:
        raise BadKeys("invalid key sequence")
    return tuple(strokes)


def is_prefix(one, two):
    """True if the first one of two sequences is a prefix of the second one, otherwise False."""
    return two[:len(one)] == one


def shown(strokes):
    """The canonical form of a sequence, an empty text for no keystrokes."""
    return " ".join(strokes)
