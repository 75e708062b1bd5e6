"""Outlines: texts with one line for each node of a tree."""

from keyfocus.errors import BadOutline, Refused
from keyfocus.syntax import is_name, quoted, unquoted
from keyfocus.tree import KINDS, ROOT, new_tree


def _without_ending(text, ending):
    """A text without an ending, and whether it had this."""
    return text.removesuffix(ending), text.endswith(ending)


def _node_of(line):
    """The depth, kind, name and label of a node, and whether it is hidden and disabled, or None."""
    text = line.lstrip(" ")
    depth, half = divmod(len(line) - len(text), 2)
    # A quoted label ends with a quote, so none of these endings can be a part of it.
    text, disabled = _without_ending(text, " disabled")
    text, hidden = _without_ending(text, " hidden")
    kind, _, rest = text.partition(" ")
    name, _, rest = rest.partition(" ")
    label = unquoted(rest)
    if half > 0 or kind not in KINDS or not is_name(name) or label is None:
        return None
    return depth, kind, name, label, hidden, disabled


def _rooted(line):
    """The tree of which a line is the outline: the root alone."""
    node = _node_of(line)
    if node is None:
        raise BadOutline(0)
    tree = new_tree(node[3])
    # Depth, kind, name and flags of a root are given, so there is one line for each label.
    if line != write_outline(tree):
        raise BadOutline(0)
    return tree


def _grow(tree, path, line, at):
    """Adds the node of a line to a tree; path, which leads to the last node, then leads to this."""
    node = _node_of(line)
    if node is None or not 1 <= node[0] <= len(path):
        raise BadOutline(at)
    depth, kind, name, label, hidden, disabled = node
    parent = path[depth - 1]
    try:
        tree.insert(parent, len(tree.children(parent)), kind, name, label)
    except Refused:
        raise BadOutline(at) from None
    tree.set_flag(name, "visible", not hidden)
    tree.set_flag(name, "enabled", not disabled)
    path[depth:] = [name]


def parse_outline(text):
    """The tree of which a text is the outline."""
    lines = text.split("\n")
    tree = _rooted(lines[0])
    path = [ROOT]
    # The first lines of an outline are one, too: the first line that cannot be added is invalid.
    for at in range(1, len(lines)):
        _grow(tree, path, lines[at], at)
    return tree


def _line_of(info):
    """The line of a node, of which the info is given."""
    name, kind, label, visible, enabled, depth = info
    hidden = "" if visible else " hidden"
    disabled = "" if enabled else " disabled"
    return "  " * depth + f"{kind} {name} {quoted(label)}{hidden}{disabled}"


def write_outline(tree):
    """The outline of a tree."""
    return "\n".join([_line_of(info) for info in tree.infos()])
