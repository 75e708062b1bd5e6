"""Which node on a focus path a key sequence triggers, and the default bindings."""

DEFAULTS = {
    "Tab": "focusNext",
    "Shift+Tab": "focusPrevious",
    "Right": "nextItem",
    "Down": "nextItem",
    "Left": "previousItem",
    "Up": "previousItem",
    "Home": "firstItem",
    "End": "lastItem",
    "Escape": "closeTopLayer",
    "Enter": "activate",
    "Space": "activate",
}


def match_on(keys, path, strokes):
    """The innermost node on a path that matches a sequence, how, and the command; or None."""
    for node in reversed(path):
        found = keys.match(node, strokes)
        if found is not None:
            how, command = found
            return node, how, command
    return None


def is_near(keys, node, strokes):
    """True if a node matches a sequence or a prefix of at least one keystroke, otherwise False."""
    return any(keys.match(node, strokes[:many]) is not None for many in range(1, len(strokes) + 1))
