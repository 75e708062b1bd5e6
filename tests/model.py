"""A second manager, for tests: it tells everything anew from rows, and lists the errors that apply."""

from itertools import groupby

from keyfocus.commands import command_of
from keyfocus.errors import Refused
from keyfocus.keystrokes import key_sequence, keystroke
from keyfocus.outlines import parse_outline
from keyfocus.syntax import quoted
from managers import COMPOSITES, members_in, stops_in
from trees import Rows, between_in, composite_in, focusable_in, layer_in, replaced_in, rows_of

MOVEMENTS = {"focusNext": "focus_next", "focusPrevious": "focus_previous", "nextItem": "next_item",
             "previousItem": "previous_item", "firstItem": "first_item", "lastItem": "last_item"}
DEFAULTS = {"Tab": "focusNext", "Shift+Tab": "focusPrevious", "Right": "nextItem", "Down": "nextItem",
            "Left": "previousItem", "Up": "previousItem", "Home": "firstItem", "End": "lastItem",
            "Escape": "closeTopLayer", "Enter": "activate", "Space": "activate"}


def refuse(*rows):
    """Raises the first error that applies."""
    for applies, what in rows:
        if applies:
            raise Refused(what)


def starts(longer, shorter):
    return list(longer)[:len(shorter)] == list(shorter)


class Model:
    def __init__(self, outline):
        self.rows = rows_of(parse_outline(outline))
        self.stack = [["root", 0]]
        self.items = {}
        self.current = {}
        self.bound = []
        self.waiting = ()
        self.queue = []
        self.told = ()
        self.numbers = 0
        self.recover(Rows(""))

    # What it tells.

    def nodes(self):
        return list(self.rows.rows)

    def outline(self):
        return "\n".join("  " * depth + f"{kind} {name} {quoted(label)}" + ("" if visible else " hidden")
                         + ("" if enabled else " disabled")
                         for name, kind, label, visible, enabled, depth in self.rows.rows)

    def node(self, name):
        return {row[0]: row for row in self.rows.rows}.get(name)

    def unknown(self, name):
        return not self.rows.has(name), "unknown node"

    def children(self, name):
        refuse(self.unknown(name))
        return self.rows.children(name)

    def ancestors(self, name):
        refuse(self.unknown(name))
        return self.rows.ancestors(name)

    def is_kind(self, name, *kinds):
        return self.rows.has(name) and self.rows.kind(name) in kinds

    def focusable_items(self, layer):
        refuse(self.unknown(layer), (not self.is_kind(layer, "layer"), "not a layer"))
        return focusable_in(self.rows, layer)

    def tab_stops(self, layer):
        refuse(self.unknown(layer), (not self.is_kind(layer, "layer"), "not a layer"))
        return stops_in(self.rows, layer)

    def current_item(self, composite):
        refuse(self.unknown(composite), (not self.is_kind(composite, *COMPOSITES), "not a composite"))
        return self.current.get(composite)

    def layer_item(self, layer):
        refuse(self.unknown(layer), (layer not in self.open_layers(), "layer is not open"))
        return self.items[layer]

    def open_layers(self):
        return [layer for layer, number in self.stack]

    def top(self):
        return self.stack[-1][0]

    def focused(self):
        return self.items[self.top()]

    def focus_path(self):
        item = self.focused()
        return [self.top()] + ([] if item is None else between_in(self.rows, item)[::-1] + [item])

    def steps(self):
        steps = []
        for name in self.focus_path():
            row = self.node(name)
            composite = composite_in(self.rows, name)
            members = members_in(self.rows, composite) if composite and row[1] == "item" else []
            steps.append(row[:1] + row[1:3] + ((members.index(name) + 1 if members else 0), len(members)))
        return steps

    # Changes of the tree.

    def copied(self):
        rows = Rows("")
        rows.rows = list(self.rows.rows)
        return rows

    def insert(self, parent, index, kind, name, label):
        refuse(*[(True, what) for what in self.rows.insert_errors(parent, index, name)])
        before = self.copied()
        self.rows.insert(parent, index, kind, name, label)
        self.recover(before)

    def move(self, name, parent, index):
        refuse(*[(True, what) for what in self.rows.move_errors(name, parent, index)])
        before = self.copied()
        self.rows.move(name, parent, index)
        self.recover(before)

    def remove(self, name):
        refuse(self.unknown(name), (name == "root", "not allowed for the root layer"))
        before = self.copied()
        many = self.rows.remove(name)
        self.recover(before)
        return many

    def set_label(self, name, label):
        refuse(self.unknown(name))
        self.rows.change(name, 2, label)

    def show(self, name):
        return self.set_flag(name, 3, True)

    def hide(self, name):
        return self.set_flag(name, 3, False)

    def enable(self, name):
        return self.set_flag(name, 4, True)

    def disable(self, name):
        return self.set_flag(name, 4, False)

    def set_flag(self, name, column, value):
        refuse(self.unknown(name), (name == "root", "not allowed for the root layer"))
        before = self.copied()
        changed = self.rows.change(name, column, value)
        self.recover(before)
        return changed

    def recover(self, before):
        """Point 19; behind no tree at all, everything gets its first item, as at the beginning."""
        there = []
        for layer, number in self.stack:
            if not self.rows.has(layer):
                break
            there.append([layer, number])
        self.stack = there
        self.items = {layer: self.kept(before, self.items.get(layer), layer, focusable_in(self.rows, layer))
                      for layer in self.open_layers()}
        old, self.current = self.current, {}
        for row in self.rows.rows:
            if row[1] in COMPOSITES and composite_in(self.rows, row[0]) is None:
                item = old.get(row[0])
                if before.has(row[0]) and layer_in(before, row[0]) != layer_in(self.rows, row[0]):
                    item = None
                self.current[row[0]] = self.kept(before, item, row[0], members_in(self.rows, row[0]))
        for layer in self.open_layers():
            self.share(self.items[layer])
        self.bound = [binding for binding in self.bound if self.rows.has(binding[0])]
        self.settle()

    def kept(self, before, item, top, allowed):
        if item in allowed:
            return item
        if item is None:
            return allowed[0] if allowed else None
        return replaced_in(before, item, top, allowed)

    def share(self, item):
        if item is not None and composite_in(self.rows, item) is not None:
            self.current[composite_in(self.rows, item)] = item

    def settle(self):
        """What follows each call."""
        path = tuple(self.focus_path())
        if path != self.told:
            self.waiting = ()
            self.queue.append(("path", self.told, path, self.steps()))
            self.told = path
        self.merge()

    def merge(self):
        """Puts one path in the place of each row of neighbouring ones."""
        merged = []
        for kind, group in groupby(self.queue, key=lambda entry: entry[0]):
            group = list(group)
            if kind == "path":
                group = [("path", group[0][1]) + group[-1][2:]]
                group = [entry for entry in group if entry[1] != entry[2]]
            merged.extend(group)
        self.queue = merged

    # The focus.

    def give(self, item):
        self.items[self.top()] = item
        self.share(item)
        self.settle()

    def entry(self, stop):
        return stop if self.rows.kind(stop) == "item" else self.current[stop]

    def composite(self):
        return None if self.focused() is None else composite_in(self.rows, self.focused())

    def travel(self, step):
        if self.focused() is not None:
            stops = stops_in(self.rows, self.top())
            stop = self.composite() or self.focused()
            self.give(self.entry((stops * 3)[len(stops) + stops.index(stop) + step]))
        return self.focused()

    def focus_next(self):
        return self.travel(1)

    def focus_previous(self):
        return self.travel(-1)

    def step(self, change):
        """Moves to the member at an index that is found from the present one and the last one."""
        if self.composite() is not None:
            members = members_in(self.rows, self.composite())
            at, last = change(members.index(self.focused()), len(members) - 1)
            if self.rows.kind(self.composite()) == "linear":
                at = sorted((0, at, last))[1]
            self.give(members[at if at <= last else 0])
        return self.focused()

    def next_item(self):
        return self.step(lambda at, last: (at + 1, last))

    def previous_item(self):
        return self.step(lambda at, last: (at - 1, last))

    def first_item(self):
        return self.step(lambda at, last: (0, last))

    def last_item(self):
        return self.step(lambda at, last: (last, last))

    def typeahead(self, text):
        if self.composite() is not None:
            members = members_in(self.rows, self.composite())
            labels = {row[0]: row[2].upper() for row in self.rows.rows}
            at = members.index(self.focused())
            found = [name for name in members[at + 1:] + members[:at + 1] if starts(labels[name], text.upper())]
            self.give((found + [self.focused()])[0])
        return self.focused()

    def unfocusable(self, name):
        return name not in focusable_in(self.rows, self.top()), "item is not focusable"

    def focus(self, name):
        refuse(self.unknown(name), self.unfocusable(name))
        self.give(name)

    def shortest_route(self, name):
        refuse(self.unknown(name), self.unfocusable(name))
        here, there = self.focused(), composite_in(self.rows, name)
        route = []
        if there != self.composite() or there is None:
            stops = stops_in(self.rows, self.top())
            ahead = stops.index(there or name) - stops.index(self.composite() or here)
            ahead += len(stops) if ahead < 0 else 0
            back = len(stops) - ahead
            route = ["focusNext"] * ahead if ahead <= back else ["focusPrevious"] * back
            here = self.entry(there or name)
        return route + (self.within(there, here, name) if there else [])

    def within(self, composite, start, target):
        members = members_in(self.rows, composite)
        by = members.index(target) - members.index(start)
        round_by = len(members) if self.rows.kind(composite) == "circular" else 1000
        ways = [
            ["nextItem"] * (by if by >= 0 else by + round_by),
            ["previousItem"] * (-by if by <= 0 else round_by - by),
            ["firstItem"] + ["nextItem"] * members.index(target),
            ["lastItem"] + ["previousItem"] * (len(members) - members.index(target) - 1),
        ]
        return sorted(ways, key=len)[0]

    # Layers.

    def open_layer(self, layer):
        refuse(self.unknown(layer), (not self.is_kind(layer, "layer"), "not a layer"),
               (layer in self.open_layers(), "layer is already open"),
               (len(self.stack) == 6, "too many open layers"))
        stops = stops_in(self.rows, layer)
        self.numbers += 1
        self.stack.append([layer, self.numbers])
        self.items[layer] = self.entry(stops[0]) if stops else None
        self.settle()
        return self.numbers

    def close_layer(self, layer):
        refuse(self.unknown(layer), (layer not in self.open_layers(), "layer is not open"),
               (layer == "root", "not allowed for the root layer"))
        closed = []
        while layer not in closed:
            closed.append(self.stack.pop()[0])
        self.settle()
        return closed

    def is_closed(self, number):
        return number not in [number for layer, number in self.stack[1:]]

    def close_opening(self, number):
        for layer, other in self.stack[1:]:
            if number == other:
                self.close_layer(layer)
                return True
        return False

    # Keys.

    def bind(self, node, sequence, command):
        strokes = key_sequence(sequence)
        others = [other for name, other, _ in self.bound if name == node]
        refuse((command_of(command) is None, "no command"), self.unknown(node),
               (any(starts(one, strokes) or starts(strokes, one) for one in others), "conflicting key sequence"),
               (len(self.bound) == 40, "too many bindings"))
        self.bound.append((node, strokes, command))

    def unbind(self, node, sequence):
        strokes = key_sequence(sequence)
        refuse(self.unknown(node))
        left = [binding for binding in self.bound if binding[:2] != (node, strokes)]
        changed = len(left) < len(self.bound)
        self.bound = left
        return changed

    def bindings(self, node):
        refuse(self.unknown(node))
        return [(" ".join(strokes), command) for name, strokes, command in self.bound if name == node]

    def pending(self):
        return " ".join(self.waiting)

    def match(self, node, strokes):
        """The command, an empty text for a partial match; None if there is no match."""
        found = [("" if len(longer) > len(strokes) else command) for name, longer, command in self.bound
                 if name == node and starts(longer, strokes)]
        return found[0] if found else None

    def decided(self, strokes):
        for node in reversed(self.focus_path()):
            if self.match(node, strokes) is not None:
                return node, self.match(node, strokes)
        return None

    def told_of(self, stroke):
        """What a keystroke does, and the strokes that are kept or triggered."""
        for strokes in ([self.waiting + (stroke,)] if self.waiting else []) + [(stroke,)]:
            found = self.decided(strokes)
            if found is not None:
                return ("triggered" if found[1] else "pending"), *found, () if found[1] else strokes
        if stroke in DEFAULTS:
            return "triggered", self.top(), DEFAULTS[stroke], ()
        return "unmatched", "", "", ()

    def press(self, text):
        result, node, command, self.waiting = self.told_of(keystroke(text))
        executed = bool(command) and self.execute(command)
        return result, node, command, executed

    def near(self, node, strokes):
        return any(self.match(node, strokes[:many + 1]) is not None for many in range(len(strokes)))

    def shadowing(self, node, sequence):
        strokes = key_sequence(sequence)
        path = self.focus_path()
        refuse(self.unknown(node), (node not in path, "node is not on the focus path"),
               ((node, strokes) not in [binding[:2] for binding in self.bound], "key sequence is not bound"))
        found = [name for name in path[path.index(node) + 1:] if self.near(name, strokes)]
        return found[-1] if found else None

    def execute(self, command):
        refuse((command_of(command) is None, "no command"))
        word, argument = command_of(command)
        if word in MOVEMENTS:
            applicable = (self.focused() if word.startswith("focus") else self.composite()) is not None
            getattr(self, MOVEMENTS[word])()
            return applicable
        if word in ("activate", "run"):
            return word == "run" or self.focused() is not None
        try:
            if word == "closeTopLayer":
                self.close_layer(self.top())
            elif word == "announce":
                self.announce(argument, False)
            else:
                getattr(self, {"focus": "focus", "openLayer": "open_layer"}[word])(argument)
        except Refused:
            return False
        return True

    # Announcements.

    def announce(self, text, assertive):
        messages = [entry for entry in self.queue if entry[0] == "message"]
        refuse((len(messages) == 40, "too many queued messages"))
        self.queue.append(("message", text, assertive))
        if assertive:
            loud = [entry for entry in self.queue if entry[0] == "message" and entry[2]]
            self.queue = loud + [entry for entry in self.queue if entry[0] == "path"]
        self.merge()

    def queued(self):
        return [self.shown(entry) for entry in self.queue]

    def take(self):
        return self.shown(self.queue.pop(0)) if self.queue else None

    def shown(self, entry):
        if entry[0] == "message":
            return entry
        kind, old, new, steps = entry
        same = max(many for many in range(len(old) + 1) if old[:many] == new[:many])
        return kind, len(old[same:]), tuple(steps[same:])
