"""The stack of the open layers."""

from keyfocus.tree import ROOT


class Openings:
    """The open layers, the root at the bottom, each with the number of its opening."""

    def __init__(self):
        # In the order of the stack; the root is open without having been opened.
        self._numbers = {ROOT: None}
        self._last = 0

    def layers(self):
        """The list of the open layers, the root first."""
        return list(self._numbers)

    def topmost(self):
        """The topmost layer."""
        return self.layers()[-1]

    def put(self, layer):
        """Puts a layer on top of the stack; returns the number of the opening."""
        self._last += 1
        self._numbers[layer] = self._last
        return self._last

    def cut(self, layer):
        """Removes a layer and all above it; returns the list of these, the topmost first."""
        layers = self.layers()
        closed = layers[layers.index(layer):][::-1]
        for name in closed:
            del self._numbers[name]
        return closed

    def layer_of_opening(self, number):
        """The layer of an opening that is not closed; None for all other numbers."""
        for layer in self._numbers:
            if self._numbers[layer] == number:
                return layer
        return None
