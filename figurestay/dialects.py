"""Dialects: the shapes that sums, differences, products and quotients get."""

from figurestay.basics import is_whole_number, need_whole_number
from figurestay.errors import BadValue
from figurestay.shapes import Shape, need_shape
from figurestay.ways import need_way

OPERATIONS = ("sum", "difference", "product", "quotient")


class Dialect:
    """A cap, the places that a cut keeps, and the rules of products, quotients and rounding."""

    def __init__(self, cap, kept, *, extra=0, places=0, way="halfup"):
        if not is_whole_number(cap) or cap == 0:
            raise BadValue(cap)
        if not is_whole_number(kept) or kept > cap:
            raise BadValue(kept)
        if not is_whole_number(extra) or extra > 1:
            raise BadValue(extra)
        need_whole_number(places)
        need_way(way)
        self.cap = cap
        self.kept = kept
        self.extra = extra
        self.places = places
        self.way = way

    def __eq__(self, other):
        return (
            isinstance(other, Dialect) and self.cap == other.cap and self.kept == other.kept
            and self.extra == other.extra and self.places == other.places and self.way == other.way
        )

    def uncut(self, word, one, other):
        """The Shape of a result from the Shapes of its parts, however wide."""
        if word not in OPERATIONS:
            raise BadValue(word)
        need_shape(one)
        need_shape(other)
        if word == "product":
            return Shape(one.whole + other.whole + self.extra, one.scale + other.scale)
        if word == "quotient":
            return Shape(one.whole + other.scale, max(self.places, one.scale + other.whole + 1))
        return Shape(max(one.whole, other.whole) + 1, max(one.scale, other.scale))

    def cut(self, shape):
        """The Shape itself, or cut to the cap if it is wider."""
        need_shape(shape)
        if shape.width <= self.cap:
            return shape
        scale = max(self.cap - shape.whole, min(shape.scale, self.kept))
        return Shape(self.cap - scale, scale)

    def shape_of(self, word, one, other):
        """The uncut Shape, cut if it is wider than the cap."""
        return self.cut(self.uncut(word, one, other))


def need_dialect(value):
    """BadValue for a value that is no Dialect."""
    if not isinstance(value, Dialect):
        raise BadValue(value)
