"""The tree of the nodes of a user interface."""

from keyfocus.errors import Refused

ROOT = "root"
KINDS = ("item", "container", "linear", "circular", "layer")
_MOST_NODES = 60
_GREATEST_DEPTH = 8


class Tree:
    """Nodes below the layer root, each with a kind, a label and two flags; made by new_tree."""

    def __init__(self, label):
        self._kinds = {ROOT: "layer"}
        self._labels = {ROOT: label}
        self._flags = {"visible": {ROOT: True}, "enabled": {ROOT: True}}
        self._parents = {ROOT: None}
        self._children = {ROOT: []}

    def has(self, name):
        """True if there is a node of this name, otherwise False."""
        return name in self._kinds

    def kind(self, name):
        """The kind of a node."""
        return self._kinds[name]

    def label(self, name):
        """The label of a node."""
        return self._labels[name]

    def is_visible(self, name):
        """True if a node is visible by its own flag, False if it is hidden."""
        return self._flags["visible"][name]

    def is_enabled(self, name):
        """True if a node is enabled by its own flag, False if it is disabled."""
        return self._flags["enabled"][name]

    def depth(self, name):
        """How many ancestors a node has."""
        return len(self.ancestors(name))

    def parent(self, name):
        """The parent of a node, None for the root."""
        return self._parents[name]

    def children(self, name):
        """The list of the children of a node."""
        return list(self._children[name])

    def ancestors(self, name):
        """The list of the ancestors of a node, its parent first."""
        found = []
        parent = self._parents[name]
        while parent is not None:
            found.append(parent)
            parent = self._parents[parent]
        return found

    def subtree(self, name):
        """The list of a node and its descendants in document order."""
        nodes = [name]
        for child in self._children[name]:
            nodes.extend(self.subtree(child))
        return nodes

    def names(self):
        """The list of the names of all nodes in document order."""
        return self.subtree(ROOT)

    def infos(self):
        """The list of the infos of all nodes in document order."""
        return [self._info(name) for name in self.names()]

    def copy(self):
        """A tree alike, which does not change with this one."""
        twin = Tree(self._labels[ROOT])
        twin._kinds = dict(self._kinds)
        twin._labels = dict(self._labels)
        twin._flags = {flag: dict(self._flags[flag]) for flag in self._flags}
        twin._parents = dict(self._parents)
        twin._children = {name: list(self._children[name]) for name in self._children}
        return twin

    def insert(self, parent, index, kind, name, label):
        """Inserts a visible and enabled node as the child of a parent at an index."""
        self._refuse_unknown(parent)
        self._refuse_item(parent)
        self._refuse_index(index, len(self._children[parent]))
        self._refuse_depth(self.depth(parent) + 1)
        if self.has(name):
            raise Refused("duplicate name")
        if len(self._kinds) >= _MOST_NODES:
            raise Refused("too many nodes")
        self._kinds[name] = kind
        self._labels[name] = label
        self._flags["visible"][name] = True
        self._flags["enabled"][name] = True
        self._children[name] = []
        self._attach(name, parent, index)

    def move(self, name, parent, index):
        """Moves a node with its descendants to a parent, at an index counted without the node."""
        self._refuse_unknown(name)
        self._refuse_unknown(parent)
        self._refuse_root(name)
        self._refuse_item(parent)
        nodes = self.subtree(name)
        if parent in nodes:
            raise Refused("cannot move a node into itself")
        others = [child for child in self._children[parent] if child != name]
        self._refuse_index(index, len(others))
        height = max([self.depth(node) for node in nodes]) - self.depth(name)
        self._refuse_depth(self.depth(parent) + 1 + height)
        self._detach(name)
        self._attach(name, parent, index)

    def set_label(self, name, label):
        """Sets the label of a node."""
        self._refuse_unknown(name)
        self._labels[name] = label

    def remove(self, name):
        """Removes a node with its descendants; returns how many nodes these were."""
        self._refuse_unknown(name)
        self._refuse_root(name)
        gone = self.subtree(name)
        self._detach(name)
        for node in gone:
            self._forget(node)
        return len(gone)

    def set_flag(self, name, flag, value):
        """Sets the flag visible or enabled of a node; returns whether this changed it."""
        self._refuse_unknown(name)
        self._refuse_root(name)
        changed = self._flags[flag][name] != value
        self._flags[flag][name] = value
        return changed

    def _info(self, name):
        return (name, self.kind(name), self.label(name), self.is_visible(name), self.is_enabled(name),
                self.depth(name))

    def _attach(self, name, parent, index):
        self._parents[name] = parent
        self._children[parent].insert(index, name)

    def _detach(self, name):
        self._children[self._parents[name]].remove(name)

    def _forget(self, name):
        del self._kinds[name]
        del self._labels[name]
        del self._flags["visible"][name]
        del self._flags["enabled"][name]
        del self._parents[name]
        del self._children[name]

    def _refuse_unknown(self, name):
        if not self.has(name):
            raise Refused("unknown node")

    def _refuse_root(self, name):
        if name == ROOT:
            raise Refused("not allowed for the root layer")

    def _refuse_item(self, parent):
        if self.kind(parent) == "item":
            raise Refused("an item cannot have children")

    def _refuse_index(self, index, many):
        if index > many:
            raise Refused("index out of range")

    def _refuse_depth(self, depth):
        if depth > _GREATEST_DEPTH:
            raise Refused("tree too deep")


def new_tree(label):
    """The tree that has the root alone."""
    return Tree(label)
