"""Composites, their members, and the tab stops of layers."""

from keyfocus.focusable import between, focusable_items, is_focusable

COMPOSITE_KINDS = ("linear", "circular")


def composite_of(tree, name):
    """The outermost linear or circular node between a node and its layer, or None."""
    around = [node for node in between(tree, name) if tree.kind(node) in COMPOSITE_KINDS]
    if len(around) == 0:
        return None
    return around[-1]


def outer_composites(tree):
    """The list, in document order, of the linear and circular nodes that are inside no other one."""
    return [name for name in tree.names()
            if tree.kind(name) in COMPOSITE_KINDS and composite_of(tree, name) is None]


def members(tree, composite):
    """The list of the members of a composite, in document order."""
    return [name for name in tree.subtree(composite)
            if is_focusable(tree, name) and composite_of(tree, name) == composite]


def stop_of(tree, item):
    """The tab stop of an item: the item itself or its composite."""
    composite = composite_of(tree, item)
    if composite is None:
        return item
    return composite


def tab_stops(tree, layer):
    """The list of the tab stops of a layer, in order."""
    stops = []
    for item in focusable_items(tree, layer):
        stop = stop_of(tree, item)
        if stop not in stops:
            stops.append(stop)
    return stops


def place_of(tree, item):
    """The position of a member in its composite and the number of members; zeros for other nodes."""
    composite = composite_of(tree, item)
    if composite is None:
        return 0, 0
    row = members(tree, composite)
    if item not in row:
        return 0, 0
    return row.index(item) + 1, len(row)
