"""Key sequences that are bound to nodes."""

from keyfocus.errors import Refused
from keyfocus.keystrokes import is_prefix, shown

_MOST_BINDINGS = 40


class Bindings:
    """The commands of the key sequences of each node."""

    def __init__(self):
        # The inner dicts keep the order in which the sequences of a node were bound.
        self._commands = {}

    def bind(self, node, strokes, command):
        """Binds a key sequence to a node and a command."""
        for bound in self._commands.get(node, {}):
            if is_prefix(bound, strokes) or is_prefix(strokes, bound):
                raise Refused("conflicting key sequence")
        if self.count() >= _MOST_BINDINGS:
            raise Refused("too many bindings")
        self._commands.setdefault(node, {})[strokes] = command

    def unbind(self, node, strokes):
        """Takes a binding back; returns True if there was one, otherwise False."""
        if not self.is_bound(node, strokes):
            return False
        del self._commands[node][strokes]
        return True

    def of(self, node):
        """The list of the canonical forms of a node's sequences, with their commands."""
        bound = self._commands.get(node, {})
        return [(shown(strokes), bound[strokes]) for strokes in bound]

    def is_bound(self, node, strokes):
        """True if a key sequence is bound to a node, otherwise False."""
        return strokes in self._commands.get(node, {})

    def drop(self, names):
        """Removes the bindings of some nodes."""
        for name in names:
            self._commands.pop(name, None)

    def match(self, node, strokes):
        """How a node matches a sequence, exactly or partially, with the command, or None."""
        bound = self._commands.get(node, {})
        if strokes in bound:
            return "exact", bound[strokes]
        if any(is_prefix(strokes, longer) for longer in bound):
            return "partial", ""
        return None

    def count(self):
        """How many key sequences are bound."""
        return sum([len(self._commands[node]) for node in self._commands])
