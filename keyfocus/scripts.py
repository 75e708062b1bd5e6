"""Scripts: texts with a line for each deed."""

from keyfocus.deeds import FORMS
from keyfocus.errors import BadScript
from keyfocus.syntax import is_label, is_name, quoted, text_in
from keyfocus.tree import KINDS

_GREATEST_INDEX = 59
_GREATEST_NUMBER = 1000000
_LONGEST_TEXT = 100
_TONES = {"polite": False, "assertive": True}


def _is_number(thing, greatest):
    """True if any value is an integer from 0 to the greatest one, otherwise False."""
    return isinstance(thing, int) and not isinstance(thing, bool) and 0 <= thing <= greatest


def _is_text(thing):
    """True if any value is a text that an argument may be, otherwise False."""
    if not isinstance(thing, str) or len(thing) > _LONGEST_TEXT:
        return False
    return all(" " <= character <= "~" for character in thing)


def _has_form(thing, form):
    """True if any value has the form of an argument, otherwise False."""
    if form == "name":
        return is_name(thing)
    if form == "label":
        return is_label(thing)
    if form == "text":
        return _is_text(thing)
    if form == "kind":
        return isinstance(thing, str) and thing in KINDS
    if form == "tone":
        return isinstance(thing, bool)
    return _is_number(thing, _GREATEST_INDEX if form == "index" else _GREATEST_NUMBER)


def is_deed(thing):
    """True if any value is a deed whose arguments have their forms, otherwise False."""
    if not isinstance(thing, tuple) or len(thing) == 0:
        return False
    word, arguments = thing[0], thing[1:]
    if not isinstance(word, str) or word not in FORMS or len(arguments) != len(FORMS[word]):
        return False
    return all([_has_form(argument, form) for argument, form in zip(arguments, FORMS[word])])


def _end_of_part(text):
    """The index behind the first part of a text: that of the first space that is not in quotes."""
    at = 0
    inside = False
    while at < len(text) and (inside or text[at] != " "):
        if text[at] == '"':
            inside = not inside
        # What stands behind a backslash ends nothing, so a quote there is skipped.
        at += 2 if inside and text[at] == "\\" else 1
    return at


def _parts(line):
    """The list of the parts of a line, which are separated by spaces."""
    parts = []
    rest = line.strip(" ")
    while rest != "":
        end = _end_of_part(rest)
        parts.append(rest[:end])
        rest = rest[end:].lstrip(" ")
    return parts


def _number_in(part):
    """The number that a part denotes, or None."""
    digits = all(character in "0123456789" for character in part)
    if not digits or len(part) > len(str(_GREATEST_NUMBER)) or (part[0] == "0" and part != "0"):
        return None
    return int(part)


def _argument_in(part, form):
    """The argument of a form that a part denotes, or None; it may still be of another form."""
    if form in ("label", "text"):
        return text_in(part)
    if form in ("index", "number"):
        return _number_in(part)
    if form == "tone":
        return _TONES.get(part)
    return part


def _deed_in(parts):
    """The deed that the parts of a line denote, or None."""
    word, arguments = parts[0], parts[1:]
    forms = FORMS.get(word, ())
    # Without this test zip would leave out what one of the two has more.
    if len(arguments) != len(forms):
        return None
    deed = (word, *[_argument_in(part, form) for part, form in zip(arguments, forms)])
    if not is_deed(deed):
        return None
    return deed


def read_script(text):
    """The list of the deeds of a script."""
    deeds = []
    for at, line in enumerate(text.split("\n"), 1):
        parts = _parts(line)
        if len(parts) > 0:
            deed = _deed_in(parts)
            if deed is None:
                raise BadScript(at)
            deeds.append(deed)
    return deeds


def _written(argument, form):
    """An argument of a form as it stands in a script."""
    if form in ("label", "text"):
        return quoted(argument)
    if form == "tone":
        return "assertive" if argument else "polite"
    return str(argument)


def _line_of(deed):
    """The line of a deed."""
    word, arguments = deed[0], deed[1:]
    return " ".join([word] + [_written(argument, form) for argument, form in zip(arguments, FORMS[word])])


def write_script(deeds):
    """The script of deeds."""
    return "\n".join([_line_of(deed) for deed in deeds])
