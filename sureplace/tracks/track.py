"""Tracks: layers that come and go."""

from sureplace.errors import UnknownMoment
from sureplace.tracks.chains import linked
from sureplace.tracks.layers import Layer, narrowed
from sureplace.tracks.links import chain_or_barrier, places_alive, places_ending


class Track:
    """A pace, and the layers that are there now; it answers as if they had been given at once."""

    def __init__(self, pace):
        self.pace = pace
        self._layers = {}
        # What was worked out of links, by the moments of two layers; most calls change one layer of many.
        self._tables = {}

    @property
    def times(self):
        """The moments of the layers, in ascending order."""
        return sorted(self._layers)

    def _layer(self, moment):
        """The layer of the moment."""
        layer = self._layers.get(moment)
        if layer is None:
            raise UnknownMoment(moment)
        return layer

    def _forget(self, moment):
        """Drop the links of the layer of the moment."""
        for pair in list(self._tables):
            if moment in pair:
                del self._tables[pair]

    def _table(self, layer, other):
        """The links of two layers that follow one another."""
        pair = (layer.moment, other.moment)
        table = self._tables.get(pair)
        if table is None:
            table = linked(self.pace, layer, other)
            self._tables[pair] = table
        return table

    def _linked_layers(self):
        """The layers, in ascending order of their moments, and their links."""
        layers = [self._layers[moment] for moment in sorted(self._layers)]
        return layers, [self._table(layer, other) for layer, other in zip(layers, layers[1:])]

    def put(self, moment, boxes):
        """Add a layer, or replace the one of the same moment."""
        self._layers[moment] = Layer(moment, boxes)
        self._forget(moment)

    def drop(self, moment):
        """Remove a layer."""
        self._layer(moment)
        del self._layers[moment]
        self._forget(moment)

    def narrow(self, moment, box):
        """Narrow a layer to the box."""
        self._layers[moment] = narrowed(self._layer(moment), box)
        self._forget(moment)

    def boxes(self, moment):
        """The boxes of a layer."""
        layer = self._layer(moment)
        return layer.boxes

    def alive(self, moment):
        """The boxes of a layer that are part of a chain."""
        here = self._layer(moment)
        layers, links = self._linked_layers()
        place = sorted(self._layers).index(moment)
        return tuple([here.boxes[number] for number in places_alive(layers, links)[place]])

    def possible(self):
        """Tell whether there is a chain."""
        layers, links = self._linked_layers()
        return all(places_ending(layers, links))

    def shown(self):
        """("chain", the first chain), or ("barrier", marks)."""
        layers, links = self._linked_layers()
        return chain_or_barrier(layers, links)
