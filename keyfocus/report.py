"""The report of what a manager holds."""

from keyfocus.outlines import parse_outline
from keyfocus.taborder import outer_composites

_NOTHING = "nothing"


def _name_or_nothing(item):
    """The name of an item, of which there may be none."""
    return _NOTHING if item is None else item


def _words_or_nothing(words):
    """Words with spaces between them, of which there may be none."""
    return " ".join(words) if len(words) > 0 else _NOTHING


def _composite_word(manager, composite):
    """A composite with its current item."""
    return f"{composite}={_name_or_nothing(manager.current_item(composite))}"


def _stop_word(manager, stop):
    """A tab stop: an item alone, or a composite with its entry item."""
    kind = manager.node(stop)[1]
    return stop if kind == "item" else _composite_word(manager, stop)


def _counts_line(manager):
    names = [info[0] for info in manager.nodes()]
    bindings = sum([len(manager.bindings(name)) for name in names])
    return f"{len(names)} nodes, {bindings} bindings, {len(manager.queued())} announcements"


def _layer_line(manager, layer):
    item = _name_or_nothing(manager.layer_item(layer))
    stops = _words_or_nothing([_stop_word(manager, stop) for stop in manager.tab_stops(layer)])
    return f"layer {layer}: {item} of {stops}"


def _current_line(manager):
    composites = outer_composites(parse_outline(manager.outline()))
    return "current " + _words_or_nothing([_composite_word(manager, name) for name in composites])


def report(manager):
    """The report of a manager, a text."""
    lines = [_counts_line(manager)]
    lines.extend([_layer_line(manager, layer) for layer in manager.open_layers()])
    lines.append(_current_line(manager))
    lines.append("path " + " ".join(manager.focus_path()))
    lines.append("waiting " + (_NOTHING if manager.pending() == "" else manager.pending()))
    return "\n".join(lines)
