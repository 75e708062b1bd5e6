"""What takes the place of a current item that no longer qualifies."""


def _nearest(nodes, item, allowed):
    """The nearest of some nodes that is allowed, those behind an item first, or None."""
    at = nodes.index(item)
    for node in nodes[at + 1:] + nodes[:at][::-1]:
        if node in allowed:
            return node
    return None


def replacement(before, item, top, allowed):
    """The replacement of an item of a layer or composite, or None; before is the tree as it was."""
    for ancestor in before.ancestors(item):
        found = _nearest(before.subtree(ancestor), item, allowed)
        if found is not None:
            return found
        if ancestor == top:
            break
    if len(allowed) == 0:
        return None
    return allowed[0]
