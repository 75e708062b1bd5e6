"""Layers of nodes, and the items that are focusable in them."""


def layer_of(tree, name):
    """The nearest ancestor of the kind layer; the root itself for the root."""
    for ancestor in tree.ancestors(name):
        if tree.kind(ancestor) == "layer":
            return ancestor
    return name


def between(tree, name):
    """The list of the nodes between a node and its layer, from the inside outward."""
    nodes = []
    for ancestor in tree.ancestors(name):
        if tree.kind(ancestor) == "layer":
            break
        nodes.append(ancestor)
    return nodes


def is_focusable(tree, name):
    """True if a node is an item that is focusable in its layer, otherwise False."""
    if tree.kind(name) != "item":
        return False
    return all(tree.is_visible(node) and tree.is_enabled(node) for node in [name] + between(tree, name))


def focusable_items(tree, layer):
    """The list of the focusable items of a layer, in document order."""
    return [name for name in tree.subtree(layer)
            if is_focusable(tree, name) and layer_of(tree, name) == layer]
