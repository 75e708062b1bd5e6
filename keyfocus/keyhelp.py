"""Which keys mean what at the focus of a manager."""

from keyfocus.bindings import Bindings
from keyfocus.interpreting import interpreted
from keyfocus.keystrokes import is_prefix, key_sequence, keystroke
from keyfocus.matching import DEFAULTS, match_on


def _rows(manager):
    """The bindings on the focus path, from the focused item outward: sequence, node, command, inner."""
    rows = []
    for node in reversed(manager.focus_path()):
        for sequence, command in manager.bindings(node):
            rows.append((sequence, node, command, manager.shadowing(node, sequence)))
    return rows


def _keys_on_path(manager):
    """The bindings of the nodes on the focus path."""
    keys = Bindings()
    for sequence, node, command, _ in _rows(manager):
        keys.bind(node, key_sequence(sequence), command)
    return keys


def _pending_strokes(manager):
    """The pending sequence of a manager as a tuple, which may be empty."""
    if manager.pending() == "":
        return ()
    return key_sequence(manager.pending())


def live_bindings(manager):
    """The list of the bindings that work from here: sequence, node and command."""
    return [(sequence, node, command) for sequence, node, command, inner in _rows(manager) if inner is None]


def hidden_bindings(manager):
    """The list of the bindings that do not work from here: sequence, node, and what is in the way."""
    return [(sequence, node, inner) for sequence, node, _, inner in _rows(manager) if inner is not None]


def live_defaults(manager):
    """The list of the default bindings whose keystroke no node on the focus path matches."""
    keys, path = _keys_on_path(manager), manager.focus_path()
    return [(stroke, DEFAULTS[stroke]) for stroke in DEFAULTS if match_on(keys, path, (stroke,)) is None]


def meaning(manager, text):
    """What a keystroke would do now: the result, the node and the command."""
    stroke = keystroke(text)
    keys, path = _keys_on_path(manager), manager.focus_path()
    result, node, command, _ = interpreted(keys, path, _pending_strokes(manager), stroke)
    return result, node, command


def next_strokes(manager):
    """The ascending list of the keystrokes that continue the pending sequence on the focus path."""
    pending = _pending_strokes(manager)
    found = []
    for sequence, _, _, _ in _rows(manager):
        strokes = key_sequence(sequence)
        if is_prefix(pending, strokes) and len(strokes) > len(pending):
            found.append(strokes[len(pending)])
    return sorted(set(found))


def help_text(manager):
    """A text with a line for each key that works from here, and for the pending sequence."""
    lines = [f"{sequence}: {command} ({node})" for sequence, node, command in live_bindings(manager)]
    lines.extend([f"{stroke}: {command}" for stroke, command in live_defaults(manager)])
    if manager.pending() != "":
        lines.append(f"waiting: {manager.pending()}")
    return "\n".join(lines)
