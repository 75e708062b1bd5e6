"""Deeds, which are calls of a manager, and sessions, which record them."""

from keyfocus.errors import FocusError, Refused
from keyfocus.manager import Manager
from keyfocus.treediff import EDITS

# The forms of the arguments of each word.
FORMS = {
    "insert": ("name", "index", "kind", "name", "label"),
    "remove": ("name",),
    "show": ("name",),
    "hide": ("name",),
    "enable": ("name",),
    "disable": ("name",),
    "open_layer": ("name",),
    "close_layer": ("name",),
    "focus": ("name",),
    "move": ("name", "name", "index"),
    "set_label": ("name", "label"),
    "typeahead": ("label",),
    "close_opening": ("number",),
    "bind": ("name", "text", "text"),
    "unbind": ("name", "text"),
    "press": ("text",),
    "execute": ("text",),
    "announce": ("label", "tone"),
    "focus_next": (),
    "focus_previous": (),
    "next_item": (),
    "previous_item": (),
    "first_item": (),
    "last_item": (),
    "take": (),
}


def _calls(manager):
    """The calls of a manager by their words."""
    return {
        "insert": lambda parent, index, kind, name, label: manager.insert(parent, index, kind, name, label),
        "remove": lambda name: manager.remove(name),
        "show": manager.show,
        "hide": manager.hide,
        "enable": manager.enable,
        "disable": manager.disable,
        "open_layer": manager.open_layer,
        "close_layer": manager.close_layer,
        "focus": manager.focus,
        "move": manager.move,
        "set_label": manager.set_label,
        "typeahead": manager.typeahead,
        "close_opening": manager.close_opening,
        "bind": manager.bind,
        "unbind": manager.unbind,
        "press": manager.press,
        "execute": manager.execute,
        "announce": manager.announce,
        "focus_next": manager.focus_next,
        "focus_previous": manager.focus_previous,
        "next_item": manager.next_item,
        "previous_item": manager.previous_item,
        "first_item": manager.first_item,
        "last_item": manager.last_item,
        "take": manager.take,
    }


def done(manager, deed):
    """Does a deed with a manager; returns what the call returns."""
    word, arguments = deed[0], deed[1:]
    if word not in FORMS:
        raise Refused("no deed")
    calls = _calls(manager)
    call = calls[word]
    return call(*arguments)


def played(outline, deeds):
    """The manager of an outline behind deeds; those that raise errors are passed over."""
    manager = Manager(outline)
    for deed in deeds:
        try:
            done(manager, deed)
        except FocusError:
            pass
    return manager


def tree_deeds(deeds):
    """The list of those deeds that are edits of the tree."""
    return [deed for deed in deeds if deed[0] in EDITS]


def openings_of(deeds):
    """The list of the layers that the deeds that open one name, in order."""
    return [deed[1] for deed in deeds if deed[0] == "open_layer"]


class Session:
    """A manager with the record of its deeds."""

    def __init__(self, outline):
        self._outline = outline
        self._deeds = []
        self.manager = Manager(outline)

    def do(self, deed):
        """Does a deed, and records it if it raises no error; returns what the call returns."""
        found = done(self.manager, deed)
        self._deeds.append(deed)
        return found

    def deeds(self):
        """The list of the deeds that are recorded."""
        return list(self._deeds)

    def undo(self):
        """Takes the last deed back, and returns it."""
        if len(self._deeds) == 0:
            raise Refused("nothing to undo")
        deed = self._deeds.pop()
        self.manager = played(self._outline, self._deeds)
        return deed
