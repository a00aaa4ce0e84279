"""What sets two dialects, or two ways of rounding, apart."""

from figurestay.dialects import OPERATIONS, need_dialect
from figurestay.errors import WideColumn
from figurestay.formulas import column
from figurestay.shaped import need_columns
from figurestay.ways import need_way, rounded
from figurestay.worths import Worth


def shapes_part(dialect, other, columns):
    """A Formula with the fewest operations that two dialects shape unlike; None if there is none."""
    need_dialect(dialect)
    need_dialect(other)
    need_columns(columns)
    for name in sorted(columns):
        if columns[name].shape.width > min(dialect.cap, other.cap):
            raise WideColumn(name)
    known = {}
    for name in sorted(columns):
        shape = columns[name].shape
        known.setdefault((shape.whole, shape.scale), (shape, column(name)))
    # Up to the first step with unlike shapes both dialects give the same ones; of the formulas with one shape any of
    # those with the fewest operations will do. layers[n] has those that need n operations.
    layers, last = [list(known.values())], 0
    while len(layers) <= 2 * last + 1:
        layer = []
        for word, one, more in _next_steps(layers):
            shape = dialect.shape_of(word, one[0], more[0])
            if shape != other.shape_of(word, one[0], more[0]):
                return _worked_by(word, one[1], more[1])
            if (shape.whole, shape.scale) not in known:
                known[(shape.whole, shape.scale)] = shape, _worked_by(word, one[1], more[1])
                layer.append(known[(shape.whole, shape.scale)])
                last = len(layers)
        layers.append(layer)
    return None


def ways_part(way, other, signed):
    """The Worth with one place nearest to 0 that two ways round to unlike worths of the scale 0; None if none is."""
    need_way(way)
    need_way(other)
    # Whether a number is even, and its sign, is all that a way looks at besides the place that is dropped.
    for units in range(20):
        for worth in (Worth(units, 1), Worth(-units, 1)):
            if signed is False and worth.units < 0:
                continue
            if rounded(worth, 0, way) != rounded(worth, 0, other):
                return worth
    return None


def _next_steps(layers):
    """Each operation upon two formulas that have one operation less together than the next layer has."""
    steps = []
    for many, layer in enumerate(layers):
        for one in layer:
            for more in layers[len(layers) - 1 - many]:
                steps.extend([(word, one, more) for word in OPERATIONS])
    return steps


def _worked_by(word, one, other):
    """The Formula of an operation upon two formulas."""
    if word == "sum":
        return one + other
    if word == "difference":
        return one - other
    if word == "product":
        return one * other
    return one.over(other)
