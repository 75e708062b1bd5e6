"""What a keystroke does."""

from keyfocus.matching import DEFAULTS, is_near, match_on


def interpreted(keys, path, pending, stroke):
    """The result, the node and the command of a keystroke, and the pending sequence behind it."""
    for strokes in (pending + (stroke,), (stroke,)):
        found = match_on(keys, path, strokes)
        if found is not None:
            node, how, command = found
            if how == "exact":
                return "triggered", node, command, ()
            return "pending", node, "", strokes
    if stroke in DEFAULTS:
        return "triggered", path[0], DEFAULTS[stroke], ()
    return "unmatched", "", "", ()


def nearest_inside(keys, path, node, strokes):
    """The innermost node on a path, further inside than a node, that is near a sequence; or None."""
    inner = path[path.index(node) + 1:]
    for name in reversed(inner):
        if is_near(keys, name, strokes):
            return name
    return None
