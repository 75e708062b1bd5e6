"""What several tests need: trees, all that a tree tells, and a second way to keep a tree."""

import random

from keyfocus.outlines import parse_outline
from keyfocus.tree import new_tree

KINDS = ("item", "container", "linear", "circular", "layer")
LABELS = ("", "Open", "close", "OK", "Ok then", "oPen", 'say "no"', "a\\b")


def tree_of(*lines):
    """The tree of an outline, of which the lines behind the first one are given."""
    return parse_outline("\n".join(('layer root "Root"',) + lines))


def told(tree):
    """All that a tree tells."""
    names = tree.names()
    nodes = [
        (name, tree.has(name), tree.kind(name), tree.label(name), tree.is_visible(name),
         tree.is_enabled(name), tree.depth(name), tree.parent(name), tree.children(name),
         tree.ancestors(name), tree.subtree(name))
        for name in names
    ]
    return names, tree.infos(), nodes


def random_tree(seed, many=24, hidden=0.1, kinds=("item", "item", "item") + KINDS):
    """A tree with some nodes below the root."""
    chance = random.Random(seed)
    tree = new_tree("Root")
    for number in range(many):
        parents = [name for name in tree.names() if tree.kind(name) != "item" and tree.depth(name) < 8]
        parent = chance.choice(parents[-6:])
        index = chance.randrange(len(tree.children(parent)) + 1)
        name = f"n{number}"
        tree.insert(parent, index, chance.choice(kinds), name, chance.choice(LABELS))
        for flag in ("visible", "enabled"):
            if chance.random() < hidden:
                tree.set_flag(name, flag, False)
    return tree


class Rows:
    """A tree as rows in document order, each with its depth; edits tell the errors that apply."""

    def __init__(self, label):
        self.rows = [("root", "layer", label, True, True, 0)]

    def at(self, name):
        return [row[0] for row in self.rows].index(name)

    def has(self, name):
        return name in [row[0] for row in self.rows]

    def depth(self, name):
        return self.rows[self.at(name)][5]

    def kind(self, name):
        return self.rows[self.at(name)][1]

    def end(self, at):
        """The index behind the rows of a node and its descendants."""
        for later in range(at + 1, len(self.rows)):
            if self.rows[later][5] <= self.rows[at][5]:
                return later
        return len(self.rows)

    def subtree(self, name):
        return [row[0] for row in self.rows[self.at(name):self.end(self.at(name))]]

    def children(self, name):
        return [other for other in self.subtree(name) if self.depth(other) == self.depth(name) + 1]

    def ancestors(self, name):
        found, depth = [], self.depth(name)
        for row in reversed(self.rows[:self.at(name)]):
            if row[5] < depth:
                found.append(row[0])
                depth = row[5]
        return found

    def place(self, parent, index):
        """The row before which the child of a parent at an index stands."""
        children = self.children(parent)
        if index < len(children):
            return self.at(children[index])
        return self.end(self.at(parent))

    def insert_errors(self, parent, index, name):
        known = self.has(parent)
        item = known and self.kind(parent) == "item"
        return [what for applies, what in (
            (not known, "unknown node"),
            (item, "an item cannot have children"),
            (known and index > len(self.children(parent)), "index out of range"),
            (known and self.depth(parent) == 8, "tree too deep"),
            (self.has(name), "duplicate name"),
            (len(self.rows) == 60, "too many nodes"),
        ) if applies]

    def insert(self, parent, index, kind, name, label):
        at = self.place(parent, index)
        self.rows[at:at] = [(name, kind, label, True, True, self.depth(parent) + 1)]

    def move_errors(self, name, parent, index):
        here, there = self.has(name), self.has(parent)
        others = [child for child in self.children(parent) if child != name] if there else []
        return [what for applies, what in (
            (not here or not there, "unknown node"),
            (name == "root", "not allowed for the root layer"),
            (there and self.kind(parent) == "item", "an item cannot have children"),
            (here and there and parent in self.subtree(name), "cannot move a node into itself"),
            (there and index > len(others), "index out of range"),
            (here and there and self.deepest(name, parent) > 8, "tree too deep"),
        ) if applies]

    def deepest(self, name, parent):
        """The greatest depth of a node's subtree, if it were moved to a parent."""
        deeper = self.depth(parent) + 1 - self.depth(name)
        return max(self.depth(node) for node in self.subtree(name)) + deeper

    def move(self, name, parent, index):
        at = self.at(name)
        block = self.rows[at:self.end(at)]
        self.rows[at:self.end(at)] = []
        deeper = self.depth(parent) + 1 - block[0][5]
        at = self.place(parent, index)
        self.rows[at:at] = [row[:5] + (row[5] + deeper,) for row in block]

    def remove(self, name):
        at, end = self.at(name), self.end(self.at(name))
        self.rows[at:end] = []
        return end - at

    def change(self, name, column, value):
        """Sets one value of a row; returns whether this changed it."""
        at = self.at(name)
        row = list(self.rows[at])
        row[column] = value
        changed = tuple(row) != self.rows[at]
        self.rows[at] = tuple(row)
        return changed


def rows_of(tree):
    """The rows of a tree."""
    rows = Rows("")
    rows.rows = tree.infos()
    return rows


def layer_in(rows, name):
    """The layer of a node, told by rows."""
    layers = [other for other in rows.ancestors(name) if rows.kind(other) == "layer"]
    return layers[0] if layers else name


def between_in(rows, name):
    """The nodes between a node and its layer, told by rows."""
    layer = layer_in(rows, name)
    return [other for other in rows.ancestors(name) if rows.depth(other) > rows.depth(layer)]


def focusable_in(rows, layer):
    """The focusable items of a layer, told by rows."""
    shown = {row[0]: row[3] and row[4] for row in rows.rows}
    return [row[0] for row in rows.rows
            if row[1] == "item" and layer_in(rows, row[0]) == layer
            and all(shown[node] for node in [row[0]] + between_in(rows, row[0]))]


def composite_in(rows, name):
    """The composite of a node, told by rows."""
    around = [other for other in between_in(rows, name) if rows.kind(other) in ("linear", "circular")]
    return min(around, key=rows.depth) if around else None


def replaced_in(rows, item, top, allowed):
    """The replacement, told by the distances of the rows."""
    names = [row[0] for row in rows.rows]
    at = names.index(item)
    ancestors = rows.ancestors(item)
    for ancestor in ancestors[:ancestors.index(top) + 1]:
        inside = [names.index(name) for name in allowed if name in rows.subtree(ancestor)]
        later, earlier = [one for one in inside if one > at], [one for one in inside if one < at]
        if later:
            return names[min(later)]
        if earlier:
            return names[max(earlier)]
    return allowed[0] if allowed else None
