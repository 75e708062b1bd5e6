"""The manager: a tree with its focus, its keys and its announcements."""

from keyfocus.announcing import Announcements
from keyfocus.bindings import Bindings
from keyfocus.commands import MOVEMENTS, command_of
from keyfocus.errors import Refused
from keyfocus.focus import Focus, refuse_unknown
from keyfocus.focusable import focusable_items
from keyfocus.interpreting import interpreted, nearest_inside
from keyfocus.keystrokes import key_sequence, keystroke, shown
from keyfocus.outlines import parse_outline, write_outline
from keyfocus.taborder import COMPOSITE_KINDS, tab_stops


def _refuse_no_command(command):
    if command_of(command) is None:
        raise Refused("no command")


class Manager:
    """The focus manager of the user interface that an outline describes."""

    def __init__(self, outline):
        self._tree = parse_outline(outline)
        self._focus = Focus(self._tree)
        self._keys = Bindings()
        self._waiting = ()
        # The focus path behind the last call.
        self._path = []
        self._announcements = Announcements()
        self._settle()

    def nodes(self):
        """The list of the infos of all nodes in document order."""
        return self._tree.infos()

    def outline(self):
        """The outline of the tree."""
        return write_outline(self._tree)

    def node(self, name):
        """The info of a node, None if there is no node of this name."""
        for info in self._tree.infos():
            if info[0] == name:
                return info
        return None

    def children(self, name):
        """The list of the children of a node."""
        refuse_unknown(self._tree, name)
        return self._tree.children(name)

    def ancestors(self, name):
        """The list of the ancestors of a node, its parent first."""
        refuse_unknown(self._tree, name)
        return self._tree.ancestors(name)

    def insert(self, parent, index, kind, name, label):
        """Inserts a visible and enabled node as the child of a parent at an index."""
        before = self._tree.copy()
        self._tree.insert(parent, index, kind, name, label)
        self._recover(before)

    def move(self, name, parent, index):
        """Moves a node with its descendants to a parent, at an index counted without the node."""
        before = self._tree.copy()
        self._tree.move(name, parent, index)
        self._recover(before)

    def set_label(self, name, label):
        """Sets the label of a node."""
        # No current item and no focus path depends on a label, so there is nothing to recover.
        self._tree.set_label(name, label)

    def remove(self, name):
        """Removes a node with its descendants; returns how many nodes these were."""
        before = self._tree.copy()
        many = self._tree.remove(name)
        self._keys.drop([node for node in before.names() if not self._tree.has(node)])
        self._recover(before)
        return many

    def show(self, name):
        """Makes a node visible; returns whether this changed it."""
        return self._set_flag(name, "visible", True)

    def hide(self, name):
        """Makes a node hidden; returns whether this changed it."""
        return self._set_flag(name, "visible", False)

    def enable(self, name):
        """Makes a node enabled; returns whether this changed it."""
        return self._set_flag(name, "enabled", True)

    def disable(self, name):
        """Makes a node disabled; returns whether this changed it."""
        return self._set_flag(name, "enabled", False)

    def focusable_items(self, layer):
        """The list of the focusable items of a layer, in document order."""
        self._refuse_no_layer(layer)
        return focusable_items(self._tree, layer)

    def tab_stops(self, layer):
        """The list of the tab stops of a layer, in order."""
        self._refuse_no_layer(layer)
        return tab_stops(self._tree, layer)

    def current_item(self, composite):
        """The current item of a linear or circular node, or None."""
        refuse_unknown(self._tree, composite)
        if self._tree.kind(composite) not in COMPOSITE_KINDS:
            raise Refused("not a composite")
        return self._focus.composite_item(composite)

    def layer_item(self, layer):
        """The current item of an open layer, or None."""
        return self._focus.layer_item(layer)

    def focused(self):
        """The focused item, or None."""
        return self._focus.focused()

    def focus_path(self):
        """The list of the names on the focus path, the topmost layer first."""
        return self._focus.path()

    def open_layers(self):
        """The list of the open layers, the root first."""
        return self._focus.layers()

    def focus_next(self):
        """Moves the focus to the next tab stop; returns the focused item then, or None."""
        return self._travel("focusNext")

    def focus_previous(self):
        """Moves the focus to the previous tab stop; returns the focused item then, or None."""
        return self._travel("focusPrevious")

    def next_item(self):
        """Moves the focus to the next member; returns the focused item then, or None."""
        return self._travel("nextItem")

    def previous_item(self):
        """Moves the focus to the previous member; returns the focused item then, or None."""
        return self._travel("previousItem")

    def first_item(self):
        """Moves the focus to the first member; returns the focused item then, or None."""
        return self._travel("firstItem")

    def last_item(self):
        """Moves the focus to the last member; returns the focused item then, or None."""
        return self._travel("lastItem")

    def typeahead(self, text):
        """Moves the focus to a member whose label starts with a text; returns the focused item."""
        self._focus.search(text)
        self._settle()
        return self.focused()

    def focus(self, name):
        """Gives the focus to an item of the topmost layer."""
        self._focus.focus_on(name)
        self._settle()

    def open_layer(self, layer):
        """Opens a layer; returns the number of the opening."""
        number = self._focus.open_layer(layer)
        self._settle()
        return number

    def close_layer(self, layer):
        """Closes a layer and all above it; returns the list of these, the topmost first."""
        closed = self._focus.close_layer(layer)
        self._settle()
        return closed

    def close_opening(self, number):
        """Closes the layer of an opening, if this is not closed; returns whether it was not."""
        if self.is_closed(number):
            return False
        self.close_layer(self._focus.layer_of_opening(number))
        return True

    def is_closed(self, number):
        """True if an opening is closed, and for numbers that no opening has."""
        return self._focus.layer_of_opening(number) is None

    def bind(self, node, sequence, command):
        """Binds a key sequence to a node and a command."""
        strokes = key_sequence(sequence)
        _refuse_no_command(command)
        refuse_unknown(self._tree, node)
        self._keys.bind(node, strokes, command)

    def unbind(self, node, sequence):
        """Takes a binding back; returns whether there was one."""
        strokes = key_sequence(sequence)
        refuse_unknown(self._tree, node)
        return self._keys.unbind(node, strokes)

    def bindings(self, node):
        """The list of the canonical forms of a node's sequences, with their commands."""
        refuse_unknown(self._tree, node)
        return self._keys.of(node)

    def pending(self):
        """The canonical form of the pending sequence, an empty text if it is empty."""
        return shown(self._waiting)

    def press(self, text):
        """Processes a keystroke; returns the result, the node, the command, and if it was executed."""
        stroke = keystroke(text)
        result, node, command, waiting = interpreted(self._keys, self.focus_path(), self._waiting, stroke)
        self._waiting = waiting
        executed = result == "triggered" and self._obey(command)
        self._settle()
        return result, node, command, executed

    def shadowing(self, node, sequence):
        """The innermost node that keeps a sequence of a node on the focus path from working, or None."""
        strokes = key_sequence(sequence)
        refuse_unknown(self._tree, node)
        path = self.focus_path()
        if node not in path:
            raise Refused("node is not on the focus path")
        if not self._keys.is_bound(node, strokes):
            raise Refused("key sequence is not bound")
        return nearest_inside(self._keys, path, node, strokes)

    def execute(self, command):
        """Executes a command; returns whether it was executed."""
        _refuse_no_command(command)
        executed = self._obey(command)
        self._settle()
        return executed

    def announce(self, text, assertive):
        """Announces a message, a polite or an assertive one."""
        self._announcements.message(text, assertive)

    def queued(self):
        """The list of the announcements in the queue."""
        return self._announcements.queue()

    def take(self):
        """Takes the first announcement out of the queue; None if there is none."""
        return self._announcements.take()

    def shortest_route(self, name):
        """The list of the fewest movement commands that lead from the focused item to another one."""
        return self._focus.route_to(name)

    def _set_flag(self, name, flag, value):
        before = self._tree.copy()
        changed = self._tree.set_flag(name, flag, value)
        self._recover(before)
        return changed

    def _recover(self, before):
        """Does what follows each change of the tree."""
        self._focus.recover(before)
        self._settle()

    def _settle(self):
        """Does what follows each call that may have changed the focus path."""
        path = self.focus_path()
        if path != self._path:
            self._path = path
            self._waiting = ()
            self._announcements.tell(path, self._focus.steps())

    def _travel(self, movement):
        self._focus.travel(movement)
        self._settle()
        return self.focused()

    def _obey(self, command):
        """Executes a command if it is applicable; returns whether it is."""
        word, argument = command_of(command)
        if word in MOVEMENTS:
            return self._focus.travel(word)
        if word == "activate":
            return self.focused() is not None
        if word == "run":
            return True
        try:
            self._obey_or_refuse(word, argument)
        except Refused:
            return False
        return True

    def _obey_or_refuse(self, word, argument):
        """Executes one of the commands that are applicable if they raise no error."""
        if word == "closeTopLayer":
            self._focus.close_layer(self.open_layers()[-1])
        elif word == "focus":
            self._focus.focus_on(argument)
        elif word == "openLayer":
            self._focus.open_layer(argument)
        else:
            self._announcements.message(argument, False)

    def _refuse_no_layer(self, name):
        refuse_unknown(self._tree, name)
        if self._tree.kind(name) != "layer":
            raise Refused("not a layer")
