"""Names, labels and quoted labels."""

_NAME_CHARACTERS = "abcdefghijklmnopqrstuvwxyz0123456789._-"
_LONGEST_NAME = 8
_LONGEST_LABEL = 40


def is_name(thing):
    """True if any value is a name, otherwise False."""
    if not isinstance(thing, str) or not 1 <= len(thing) <= _LONGEST_NAME:
        return False
    return all(character in _NAME_CHARACTERS for character in thing)


def is_label(thing):
    """True if any value is a label, otherwise False."""
    if not isinstance(thing, str) or len(thing) > _LONGEST_LABEL:
        return False
    return all(" " <= character <= "~" for character in thing)


def quoted(label):
    """The quoted label; texts that are no labels are quoted likewise."""
    # Backslashes come first: those that escape the quotes must not be doubled.
    escaped = label.replace("\\", "\\\\").replace('"', '\\"')
    return f'"{escaped}"'


def text_in(quotation):
    """The text whose quotation is given, or None."""
    text = quotation[1:-1].replace('\\"', '"').replace("\\\\", "\\")
    # These steps restore every text, but they take quotations that are none, too.
    if quoted(text) != quotation:
        return None
    return text


def unquoted(text):
    """The label whose quoted label a text is, or None."""
    label = text_in(text)
    if not is_label(label):
        return None
    return label
