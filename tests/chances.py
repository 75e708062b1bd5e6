"""Calls at random, for tests that do long rows of them."""

import random

from trees import KINDS, LABELS

EDITS = ("insert", "insert", "insert", "move", "move", "remove", "hide", "show", "disable", "enable", "set_label")
MOVES = ("focus_next", "focus_previous", "next_item", "previous_item", "first_item", "last_item", "typeahead")
LAYERS = ("open_layer", "open_layer", "close_layer", "close_opening", "is_closed")
KEYS = ("bind", "bind", "unbind", "press", "press", "press", "press", "shadowing", "execute", "execute")
OTHERS = ("focus", "focus", "shortest_route", "announce", "take", "node", "children", "ancestors",
          "current_item", "layer_item", "focusable_items", "tab_stops", "bindings")
STROKES = ("a", "B", "ctrl+a", "Tab", "Shift+tab", "home", "end", "Escape", "enter", "Right", "up", "x")
DEEDS = EDITS + MOVES + ("open_layer", "close_layer", "close_opening", "bind", "unbind", "press", "execute", "focus",
                         "announce", "take")


class Chance:
    """Calls at random, which are mostly possible ones."""

    def __init__(self, seed):
        self.chance = random.Random(seed)

    def call(self, manager):
        groups = (EDITS, MOVES, LAYERS, KEYS, OTHERS)
        word = self.chance.choice(self.chance.choice(groups))
        return word, self.arguments(manager, word)

    def deeds(self, session, many):
        """Deeds, one after another, for the manager of a session as it is then."""
        while many > 0:
            word, arguments = self.call(session.manager)
            if word in DEEDS:
                many -= 1
                yield (word,) + arguments

    def arguments(self, manager, word):
        pick = self.chance.choice
        if word in MOVES[:-1] or word == "take":
            return ()
        if word == "insert":
            index = self.chance.randrange(3)
            parent = self.one_of(manager, KINDS[1:])
            return parent, index, pick(KINDS + ("item",) * 3), self.new_name(), pick(LABELS)
        if word == "move":
            return self.name(manager), self.one_of(manager, KINDS[1:]), self.chance.randrange(3)
        if word == "set_label":
            return self.name(manager), pick(LABELS)
        if word == "typeahead":
            return (pick(("o", "O", "ok", "c", "z", "")),)
        if word in ("close_opening", "is_closed"):
            return (self.chance.randrange(12),)
        if word == "bind":
            return self.on_path(manager), self.sequence(), self.command(manager)
        if word in ("unbind", "shadowing"):
            return self.bound(manager)
        if word == "press":
            return (self.stroke(manager),)
        if word == "execute":
            return (self.command(manager),)
        if word == "announce":
            return pick(LABELS), self.chance.random() < 0.3
        if word in ("open_layer", "close_layer", "layer_item", "focusable_items", "tab_stops"):
            return (self.one_of(manager, ("layer",)),)
        if word in ("focus", "shortest_route"):
            return (self.one_at_hand(manager),)
        if word == "current_item":
            return (self.one_of(manager, ("linear", "circular")),)
        return (self.name(manager),)

    def name(self, manager):
        """The name of a node; now and then an unknown one."""
        return self.chance.choice([row[0] for row in manager.nodes()] + ["nobody"])

    def one_of(self, manager, kinds):
        """Mostly the name of a node of one of some kinds."""
        names = [row[0] for row in manager.nodes() if row[1] in kinds]
        return self.chance.choice(names) if names and self.chance.random() < 0.8 else self.name(manager)

    def one_at_hand(self, manager):
        """Mostly an item that can get the focus."""
        items = manager.focusable_items(manager.open_layers()[-1])
        return self.chance.choice(items) if items and self.chance.random() < 0.8 else self.name(manager)

    def stroke(self, manager):
        """Mostly one that is bound on the focus path."""
        bound = [form.split() for node in manager.focus_path() for form, _ in manager.bindings(node)]
        many = len(manager.pending().split())
        strokes = [form[many] for form in bound if len(form) > many] + [form[0] for form in bound]
        return self.chance.choice(strokes if strokes and self.chance.random() < 0.6 else STROKES)

    def new_name(self):
        return f"x{self.chance.randrange(20)}"

    def on_path(self, manager):
        return self.chance.choice([self.name(manager)] + manager.focus_path() * 2)

    def bound(self, manager):
        """Mostly a node and a sequence that is bound to it."""
        rows = [(row[0], form) for row in manager.nodes() for form, _ in manager.bindings(row[0])]
        if rows and self.chance.random() < 0.6:
            return self.chance.choice(rows)
        return self.on_path(manager), self.sequence()

    def sequence(self):
        many = self.chance.choice((1, 1, 2, 2, 3, 4))
        return " ".join(self.chance.choice(STROKES[:4]) for _ in range(many))

    def command(self, manager):
        words = ("focusNext", "focusPrevious", "nextItem", "previousItem", "firstItem", "lastItem", "closeTopLayer",
                 "activate", "run x", 'announce "Hi"', "focus", "none", f"focus {self.name(manager)}",
                 f"openLayer {self.one_of(manager, ('layer',))}", f"focus {self.one_at_hand(manager)}")
        return self.chance.choice(words)
