"""The differences of two trees, and the edits that make one tree out of another."""

from keyfocus.errors import Refused
from keyfocus.tree import ROOT

EDITS = ("insert", "remove", "move", "set_label", "show", "hide", "enable", "disable")
_FLAGS = {
    "show": ("visible", True),
    "hide": ("visible", False),
    "enable": ("enabled", True),
    "disable": ("enabled", False),
}


def _is_alike(one, other, name):
    """True if two trees have a node of a name, and of the same kind."""
    return one.has(name) and other.has(name) and one.kind(name) == other.kind(name)


def _gone(one, other):
    """The nodes of a tree that another one has not, or of another kind, in document order."""
    return [name for name in one.names() if not _is_alike(one, other, name)]


def _place(tree, name):
    """The parent of a node and its index there."""
    parent = tree.parent(name)
    if parent is None:
        return None, 0
    return parent, tree.children(parent).index(name)


def _changes(one, other, name):
    """What differs between two trees at a node that both of them have."""
    changes = (
        ("place", _place(one, name) != _place(other, name)),
        ("label", one.label(name) != other.label(name)),
        ("visible", one.is_visible(name) != other.is_visible(name)),
        ("enabled", one.is_enabled(name) != other.is_enabled(name)),
    )
    return [what for what, differs in changes if differs]


def differences(one, other):
    """The list of the differences of one tree to another, pairs of a name and what differs."""
    found = [(name, "gone") for name in _gone(one, other)]
    for name in other.names():
        if _is_alike(one, other, name):
            found.extend([(name, what) for what in _changes(one, other, name)])
        else:
            found.append((name, "new"))
    return found


def _removals(one, other):
    """The edits that remove what is gone, but not what is inside of it."""
    deeds = []
    for name in _gone(one, other):
        deeds.extend([("move", child, ROOT, 0) for child in one.children(name)[::-1]])
        deeds.append(("remove", name))
    return deeds


def _flattening(tree, other):
    """The edits that move all nodes to the root, if any of them has another place in another tree."""
    names = tree.names()
    if all([_place(tree, name) == _place(other, name) for name in names]):
        return []
    # Each of these has been moved only together with its ancestors when its turn comes, and then its
    # parent is a child of the root: it is still deeper than 1, and all others never are.
    return [("move", name, ROOT, 0) for name in names if tree.depth(name) > 1]


def _placing(tree, other, name):
    """The edits that put a node at the place that it has in another tree."""
    # The root has one place in all trees, so it is neither inserted nor moved.
    parent, index = _place(other, name)
    if not tree.has(name):
        return [("insert", parent, index, other.kind(name), name, other.label(name))]
    if _place(tree, name) != (parent, index):
        return [("move", name, parent, index)]
    return []


def _settings(tree, other, name):
    """The edits that give a node the label and the flags that it has in another tree."""
    deeds = []
    if tree.label(name) != other.label(name):
        deeds.append(("set_label", name, other.label(name)))
    if tree.is_visible(name) != other.is_visible(name):
        deeds.append(("show" if other.is_visible(name) else "hide", name))
    if tree.is_enabled(name) != other.is_enabled(name):
        deeds.append(("enable" if other.is_enabled(name) else "disable", name))
    return deeds


def _do_all(tree, deeds):
    """Does edits with a tree."""
    for deed in deeds:
        _do(tree, deed)


def _do(tree, deed):
    """Does one edit with a tree."""
    word = deed[0]
    if word not in EDITS:
        raise Refused("no edit")
    if word == "insert":
        _, parent, index, kind, name, label = deed
        tree.insert(parent, index, kind, name, label)
    elif word == "move":
        _, name, parent, index = deed
        tree.move(name, parent, index)
    elif word == "set_label":
        _, name, label = deed
        tree.set_label(name, label)
    elif word == "remove":
        tree.remove(deed[1])
    else:
        flag, value = _FLAGS[word]
        tree.set_flag(deed[1], flag, value)


def edits(one, other):
    """The list of the edits that make another tree out of one."""
    tree = one.copy()
    deeds = _removals(tree, other)
    _do_all(tree, deeds)
    moves = _flattening(tree, other)
    _do_all(tree, moves)
    deeds.extend(moves)
    for name in other.names():
        placing = _placing(tree, other, name)
        _do_all(tree, placing)
        # Labels and flags decide nothing about later edits, so these need not be done here.
        deeds.extend(placing + _settings(tree, other, name))
    return deeds


def edited(tree, deeds):
    """A tree as it is behind edits."""
    after = tree.copy()
    _do_all(after, deeds)
    return after
