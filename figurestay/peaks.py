"""Integer programs: whether a Region has points, and where.

What is seen of a Region is how far it reaches along each of its short vectors. Where it is thin it falls into few
layers, each with a vector less; where it is thin along no vector there is mostly a point in its middle.
"""

from figurestay.lattices import inner, unit_vectors
from figurestay.regions import Region, in_short_vectors, layer, stretch, tidied
from figurestay.tables import Line, first_table, rough_span, top_of

# At most so many layers are all looked at; of more of them the middle one, and what lies on its two sides.
FEW_LAYERS = 3

# With at least so many layers beside the first one along each vector it is worth the work to draw the lines in.
WORTH_DRAWING = 2

# Averages of points are told in such parts of a unit.
FINE = 100000000000000000000

# How much nearer than the middle the points lie that are tried on the way from a top to the middle, the nearest first.
SHARES = (1000000000000, 10000000000, 100000000, 1000000, 10000, 100, 10, 4, 2, 1)


class View:
    """A Region told with short vectors, its Table, the least and greatest number of each vector, and its middle."""

    def __init__(self, region, table, spans, middle):
        self.region = region
        self.table = table
        self.spans = spans
        self.middle = middle

    def thinnest(self):
        """The place of the vector with the fewest layers."""
        return min(range(len(self.spans)), key=lambda place: _room_of(self.spans[place]))

    def is_thin(self):
        """Whether the layers along some vector are few."""
        return min([_room_of(span) for span in self.spans]) < FEW_LAYERS

    def point(self):
        """The point in the middle; None if it is not in the Region."""
        numbers = [_nearest(part, FINE) for part in self.middle]
        return self.region.point(numbers) if self.region.holds(numbers) else None

    def point_below_top(self, goal):
        """A point on the way from the greatest worth of a goal to the middle; None if none that is tried is there."""
        if len(self.spans) == 0:
            return self.point()
        top = top_of(self.table, [inner(goal, vector) for vector in self.region.vectors])
        ends = [FINE * size // top.divisor for size in top.sizes]
        for share in SHARES:
            sums = [end * (share - 1) + part for end, part in zip(ends, self.middle)]
            numbers = [_nearest(total, FINE * share) for total in sums]
            if self.region.holds(numbers):
                return self.region.point(numbers)
        return None


def view_of(region):
    """The View of a Region; None if it is seen to have no points."""
    is_drawn = False
    while True:
        region = tidied(region)
        if region is None:
            return None
        if len(region.vectors) == 0:
            return View(region, None, [], [])
        region = in_short_vectors(region)
        table = first_table(region.lines, len(region.vectors))
        spans = [rough_span(table, place) for place in range(len(region.vectors))]
        view = View(region, table, spans, None)
        if min([_room_of(span) for span in spans]) > 0:
            view = _seen(region, table)
            if view is None:
                return None
        room = min([_room_of(span) for span in view.spans])
        if room < 0:
            return None
        if room == 0:
            region, is_drawn = _without_single_layers(view), False
        elif room < WORTH_DRAWING or is_drawn:
            return view
        else:
            region, is_drawn = _drawn_in(region, table), True


def smaller_regions(view):
    """Regions that together have all points of a View that is not a single point; the one near the middle is last."""
    place = view.thinnest()
    low, high = view.spans[place]
    middle = max(low, min(high, _nearest(view.middle[place], FINE)))
    if view.is_thin():
        numbers = sorted(range(low, high + 1), key=lambda number: abs(number - middle))
        return [layer(view.region, place, number) for number in numbers[::-1]]
    sides = [stretch(view.region, place, low, middle - 1), stretch(view.region, place, middle + 1, high)]
    return sides + [layer(view.region, place, middle)]


def any_point(region):
    """A point of a Region; None if it has none."""
    waiting = [region]
    while len(waiting) > 0:
        view = view_of(waiting.pop())
        if view is None:
            continue
        point = view.point()
        if point is not None:
            return point
        waiting.extend(smaller_regions(view))
    return None


def _room_of(span):
    low, high = span
    return high - low


def _seen(region, table):
    """The View of a Region with this Table; None if it is empty."""
    units = unit_vectors(len(region.vectors))
    spans, tops = [], []
    for unit in units:
        ends = _ends_of(table, unit)
        if ends is None:
            return None
        low, high = ends
        spans.append((-low.worth, high.worth))
        tops.extend(ends)
    return View(region, table, spans, [_average(tops, place) for place in range(len(units))])


def _ends_of(table, form):
    """The Tops of a form and of its negative, the latter first; None if the lines of the Table cannot be kept."""
    high = top_of(table, form)
    if high is None:
        return None
    return top_of(table, [-number for number in form]), high


def _average(tops, place):
    """The average of a variable at some Tops, in fine parts."""
    return sum([FINE * top.sizes[place] // top.divisor for top in tops]) // len(tops)


def _nearest(number, divisor):
    """The integer next to a fraction."""
    return (2 * number + divisor) // (2 * divisor)


def _without_single_layers(view):
    """The Region of a View, on all its single layers."""
    region = view.region
    for place in range(len(view.spans) - 1, -1, -1):
        low, high = view.spans[place]
        if low == high:
            region = layer(region, place, low)
    return region


def _drawn_in(region, table):
    """The same Region, with bounds that are as near to each other as its points without integers allow."""
    lines = []
    for line in region.lines:
        low, high = _ends_of(table, line.form)
        lines.append(Line(line.form, -low.worth, high.worth))
    return Region(region.offset, region.vectors, lines)
