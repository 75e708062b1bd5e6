"""What the tests of managers need: managers whose calls are watched, and all that a manager tells."""

import unittest

from keyfocus.announcing import Tracker
from keyfocus.errors import BadKeys, Refused
from keyfocus.manager import Manager
from trees import Rows, between_in, composite_in, focusable_in, layer_in

COMPOSITES = ("linear", "circular")
NUMBERS = range(-1, 40)


def outline_of(*lines):
    """An outline, of which the lines behind the first one are given."""
    return "\n".join(('layer root "Root"',) + lines)


def nodes_in(manager):
    """The nodes of a manager as rows."""
    rows = Rows("")
    rows.rows = manager.nodes()
    return rows


def members_in(rows, composite):
    """The members of a composite, told by rows."""
    return [row[0] for row in rows.rows
            if row[1] == "item" and composite_in(rows, row[0]) == composite
            and row[0] in focusable_in(rows, layer_in(rows, row[0]))]


def stops_in(rows, layer):
    """The tab stops of a layer, told by rows."""
    return list(dict.fromkeys(composite_in(rows, item) or item for item in focusable_in(rows, layer)))


def state(manager):
    """All that a manager tells."""
    nodes = manager.nodes()
    layers = [row[0] for row in nodes if row[1] == "layer"]
    return {
        "nodes": nodes,
        "outline": manager.outline(),
        "layers": [(layer, manager.layer_item(layer)) for layer in manager.open_layers()],
        "current": [(row[0], manager.current_item(row[0])) for row in nodes if row[1] in COMPOSITES],
        "focusable": [(layer, manager.focusable_items(layer)) for layer in layers],
        "stops": [(layer, manager.tab_stops(layer)) for layer in layers],
        "focused": manager.focused(),
        "path": manager.focus_path(),
        "pending": manager.pending(),
        "bindings": [(row[0], manager.bindings(row[0])) for row in nodes],
        "queued": manager.queued(),
        "closed": [manager.is_closed(number) for number in NUMBERS],
    }


def outcome(call, *arguments):
    """What a call returns, or the class and the words of the error that it raises."""
    try:
        return "returned", call(*arguments)
    except (Refused, BadKeys) as error:
        return type(error).__name__, error.what


class Watched:
    """A manager; behind each call through it, what holds behind every call is checked."""

    def __init__(self, case, outline):
        self.case = case
        self.manager = Manager(outline)
        self.tracker = Tracker()
        self.check()

    def __getattr__(self, word):
        return lambda *arguments: self.called(word, arguments)

    def called(self, word, arguments):
        before = state(self.manager)
        try:
            found = self.run(word, arguments)
        except (Refused, BadKeys):
            self.case.assertEqual(before, state(self.manager), (word, arguments))
            raise
        if word == "take" and found is not None:
            self.tracker.apply(found)
        self.check()
        if before["path"] != self.manager.focus_path():
            self.case.assertEqual("", self.manager.pending())
        elif word != "press":
            self.case.assertEqual(before["pending"], self.manager.pending())
        return self.spoiled(found)

    def run(self, word, arguments):
        return getattr(self.manager, word)(*arguments)

    def spoiled(self, found):
        """A copy of what was returned; if this is a list, it is changed, which changes nothing else."""
        if not isinstance(found, list):
            return found
        copy, before = list(found), state(self.manager)
        found[:] = ["spoiled"] + found
        self.case.assertEqual(before, state(self.manager))
        return copy

    def check(self):
        rows, manager, equal = nodes_in(self.manager), self.manager, self.case.assertEqual
        layers = manager.open_layers()
        equal("root", layers[0])
        equal(len(layers), len(set(layers)))
        for layer in layers:
            equal("layer", rows.kind(layer))
            self.check_current(manager.layer_item(layer), focusable_in(rows, layer), layer)
            self.check_composite(rows, manager.layer_item(layer))
        for row in rows.rows:
            if row[1] in COMPOSITES:
                self.check_current(manager.current_item(row[0]), members_in(rows, row[0]), row[0])
        equal(manager.layer_item(layers[-1]), manager.focused())
        item = manager.focused()
        inside = [] if item is None else between_in(rows, item)[::-1] + [item]
        equal([layers[-1]] + inside, manager.focus_path())
        self.check_queue()

    def check_current(self, item, allowed, top):
        if allowed:
            self.case.assertIn(item, allowed, top)
        else:
            self.case.assertIsNone(item, top)

    def check_composite(self, rows, item):
        composite = None if item is None else composite_in(rows, item)
        if composite is not None:
            self.case.assertEqual(item, self.manager.current_item(composite))

    def check_queue(self):
        queue, tracker = self.manager.queued(), Tracker()
        tracker.apply(("path", 0, tuple((name, "", "", 0, 0) for name in self.tracker.path())))
        kinds = [announcement[0] for announcement in queue]
        self.case.assertNotIn(("path", "path"), list(zip(kinds, kinds[1:])))
        self.case.assertLessEqual(kinds.count("message"), 40)
        for announcement in queue:
            tracker.apply(announcement)
        self.case.assertEqual(self.manager.focus_path(), tracker.path())


class ManagerCase(unittest.TestCase):
    """Tests of a manager, of which the outline is given."""

    def manager_of(self, *lines):
        return Watched(self, outline_of(*lines))

    def assert_refused(self, what, call, *arguments):
        with self.assertRaises(Refused) as caught:
            call(*arguments)
        self.assertEqual(what, caught.exception.what, arguments)

    def assert_bad_keys(self, what, call, *arguments):
        with self.assertRaises(BadKeys) as caught:
            call(*arguments)
        self.assertEqual(what, caught.exception.what, arguments)
