"""Layers: in one of which boxes the receiver was at a moment."""


class Layer:
    """At the moment, the receiver was in one of the boxes."""

    def __init__(self, moment, boxes):
        self.moment = moment
        self.boxes = boxes

    def __eq__(self, other):
        return isinstance(other, Layer) and self.moment == other.moment and self.boxes == other.boxes


class Pace:
    """In per ticks the place moves by at most speed, and the clock's offset by at most drift."""

    def __init__(self, speed, drift, per):
        self.speed = speed
        self.drift = drift
        self.per = per

    def __eq__(self, other):
        return (isinstance(other, Pace) and self.speed == other.speed and self.drift == other.drift
                and self.per == other.per)


def common(box, other):
    """The part that the boxes have in common; None if there is none."""
    part = tuple([(max(low, least), min(high, greatest)) for (low, high), (least, greatest) in zip(box, other)])
    return part if all([low <= high for low, high in part]) else None


def narrowed(layer, box):
    """The layer with the parts that its boxes have in common with the box."""
    parts = [common(other, box) for other in layer.boxes]
    return Layer(layer.moment, tuple([part for part in parts if part is not None]))
