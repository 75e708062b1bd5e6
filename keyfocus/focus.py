"""The current items of layers and composites, one of which has the focus."""

from keyfocus.composites import found_by, moved
from keyfocus.errors import Refused
from keyfocus.focusable import between, focusable_items, layer_of
from keyfocus.openings import Openings
from keyfocus.recovery import replacement
from keyfocus.routes import route_along, route_within
from keyfocus.taborder import composite_of, members, outer_composites, place_of, stop_of, tab_stops
from keyfocus.tree import ROOT

_MOST_LAYERS = 6


def refuse_unknown(tree, name):
    """Raises an error if a tree has no node of a name."""
    if not tree.has(name):
        raise Refused("unknown node")


def _first(row):
    """The first one in a list, None if there is none."""
    if len(row) == 0:
        return None
    return row[0]


def _kept(before, item, top, allowed):
    """The current item of a layer or composite behind a change of the tree, or None."""
    if item is None:
        return _first(allowed)
    if item in allowed:
        return item
    return replacement(before, item, top, allowed)


class Focus:
    """The open layers of a tree, their current items, and those of the composites."""

    def __init__(self, tree):
        self._tree = tree
        self._openings = Openings()
        self._layer_items = {ROOT: _first(focusable_items(tree, ROOT))}
        self._composite_items = {name: _first(members(tree, name)) for name in outer_composites(tree)}

    def layers(self):
        """The list of the open layers, the root first."""
        return self._openings.layers()

    def layer_item(self, layer):
        """The current item of an open layer, or None."""
        refuse_unknown(self._tree, layer)
        self._refuse_not_open(layer)
        return self._layer_items[layer]

    def composite_item(self, composite):
        """The current item of a composite, None if it has none or is inside another composite."""
        return self._composite_items.get(composite)

    def focused(self):
        """The focused item, or None."""
        return self._layer_items[self._openings.topmost()]

    def path(self):
        """The list of the names on the focus path."""
        layer = self._openings.topmost()
        item = self._layer_items[layer]
        if item is None:
            return [layer]
        return [layer] + between(self._tree, item)[::-1] + [item]

    def steps(self):
        """The tuple of the steps of the focus path."""
        return tuple([self._step(name) for name in self.path()])

    def travel(self, movement):
        """Executes a movement command; returns whether it is applicable."""
        item = self.focused()
        if item is None:
            return False
        if movement == "focusNext":
            self._enter_beside(item, 1)
            return True
        if movement == "focusPrevious":
            self._enter_beside(item, -1)
            return True
        if composite_of(self._tree, item) is None:
            return False
        self._give(moved(self._tree, item, movement))
        return True

    def search(self, text):
        """Moves the focus as typeahead does, if the focused item has a composite."""
        item = self.focused()
        if item is not None and composite_of(self._tree, item) is not None:
            self._give(found_by(self._tree, item, text))

    def focus_on(self, name):
        """Gives the focus to an item."""
        self._refuse_unfocusable(name)
        self._give(name)

    def route_to(self, name):
        """The shortest route from the focused item to another one, a list."""
        self._refuse_unfocusable(name)
        start, target = self.focused(), name
        here, there = stop_of(self._tree, start), stop_of(self._tree, target)
        route = []
        if here != there:
            route = route_along(tab_stops(self._tree, self._openings.topmost()), here, there)
            start = self._entry_item(there)
        if start == target:
            return route
        return route + route_within(self._tree, start, target)

    def open_layer(self, layer):
        """Opens a layer; returns the number of the opening."""
        refuse_unknown(self._tree, layer)
        if self._tree.kind(layer) != "layer":
            raise Refused("not a layer")
        if layer in self._layer_items:
            raise Refused("layer is already open")
        if len(self._layer_items) >= _MOST_LAYERS:
            raise Refused("too many open layers")
        stop = _first(tab_stops(self._tree, layer))
        self._layer_items[layer] = None if stop is None else self._entry_item(stop)
        return self._openings.put(layer)

    def close_layer(self, layer):
        """Closes a layer and all above it; returns the list of these, the topmost first."""
        refuse_unknown(self._tree, layer)
        self._refuse_not_open(layer)
        if layer == ROOT:
            raise Refused("not allowed for the root layer")
        return self._close(layer)

    def layer_of_opening(self, number):
        """The layer of an opening that is not closed; None for all other numbers."""
        return self._openings.layer_of_opening(number)

    def recover(self, before):
        """Restores what a change of the tree, of which the tree before it is given, has upset."""
        gone = [layer for layer in self.layers() if not self._tree.has(layer)]
        if len(gone) > 0:
            self._close(gone[0])
        for layer in self.layers():
            allowed = focusable_items(self._tree, layer)
            self._layer_items[layer] = _kept(before, self._layer_items[layer], layer, allowed)
        self._composite_items = {name: self._item_behind(before, name) for name in outer_composites(self._tree)}
        for layer in self.layers():
            self._make_current(self._layer_items[layer])

    def _item_behind(self, before, composite):
        """The current item of a composite behind a change of the tree, or None."""
        allowed = members(self._tree, composite)
        if composite not in self._composite_items:
            return _first(allowed)
        if layer_of(before, composite) != layer_of(self._tree, composite):
            return _first(allowed)
        return _kept(before, self._composite_items[composite], composite, allowed)

    def _step(self, name):
        position, size = place_of(self._tree, name)
        return name, self._tree.kind(name), self._tree.label(name), position, size

    def _entry_item(self, stop):
        """The item that gets the focus when a tab stop does."""
        if self._tree.kind(stop) == "item":
            return stop
        return self._composite_items[stop]

    def _enter_beside(self, item, step):
        """Gives the focus to the tab stop that is a step away from that of an item."""
        stops = tab_stops(self._tree, self._openings.topmost())
        at = stops.index(stop_of(self._tree, item)) + step
        self._give(self._entry_item(stops[at % len(stops)]))

    def _give(self, item):
        """Gives the focus to an item of the topmost layer."""
        self._layer_items[self._openings.topmost()] = item
        self._make_current(item)

    def _make_current(self, item):
        """Makes an item the current one of its composite; there may be no composite and no item."""
        if item is None:
            return
        composite = composite_of(self._tree, item)
        if composite is not None:
            self._composite_items[composite] = item

    def _close(self, layer):
        """Closes a layer that is open, and all above it."""
        closed = self._openings.cut(layer)
        for name in closed:
            del self._layer_items[name]
        return closed

    def _refuse_not_open(self, layer):
        if layer not in self._layer_items:
            raise Refused("layer is not open")

    def _refuse_unfocusable(self, name):
        refuse_unknown(self._tree, name)
        if name not in focusable_items(self._tree, self._openings.topmost()):
            raise Refused("item is not focusable")
