"""Vectors of integers of which all integer points are sums, made short as some forms measure them."""


class Gram:
    """What the reduction of Lenstra, Lenstra and Lovasz keeps of some vectors, in integers alone.

    bulks holds the squared volumes of the first vectors; slants, times such a volume, how far a vector leans
    on one ahead of it.
    """

    def __init__(self, images):
        self.bulks = [1]
        self.slants = []
        for image in images:
            self._take(image, images)

    def _take(self, image, images):
        row, at = [], len(self.slants)
        for other in range(at + 1):
            lean = inner(image, images[other])
            known = row if other == at else self.slants[other]
            for place in range(other):
                lean = (self.bulks[place + 1] * lean - row[place] * known[place]) // self.bulks[place]
            row.append(lean)
        self.bulks.append(row.pop())
        self.slants.append(row)

    def leaning(self, at, other):
        """How many of another vector are to be taken off a vector."""
        bulk = self.bulks[other + 1]
        return (2 * self.slants[at][other] + bulk) // (2 * bulk)

    def shift(self, at, other, times):
        """So many of another vector are taken off a vector."""
        row, known = self.slants[at], self.slants[other]
        for place in range(other):
            row[place] = row[place] - times * known[place]
        row[other] = row[other] - times * self.bulks[other + 1]

    def is_too_short(self, at):
        """Whether a vector is to change places with the one ahead of it."""
        bulks, lean = self.bulks, self.slants[at][at - 1]
        return 4 * (bulks[at + 1] * bulks[at - 1] + lean * lean) < 3 * bulks[at] * bulks[at]

    def swap(self, at):
        """A vector changes places with the one ahead of it."""
        bulks, ahead = self.bulks, at - 1
        lean = self.slants[at][ahead]
        mine, other = self.slants[at][:ahead], self.slants[ahead]
        self.slants[at], self.slants[ahead] = other + [lean], mine
        bulk = (bulks[ahead] * bulks[at + 1] + lean * lean) // bulks[at]
        for row in self.slants[at + 1:]:
            old = row[at]
            row[at] = (bulks[at + 1] * row[ahead] - lean * old) // bulks[at]
            row[ahead] = (bulk * old + lean * row[at]) // bulks[at + 1]
        bulks[at] = bulk


def inner(one, other):
    """The sum of the products of the entries of two lists."""
    return sum([number * more for number, more in zip(one, other)])


def unit_vectors(many):
    """So many vectors, each with a 1 in a place of its own and 0 in all others."""
    return [[1 if place == other else 0 for other in range(many)] for place in range(many)]


def short_vectors(forms, weights):
    """Vectors of which each integer point is one sum of multiples; short, if each form counts with its weight.

    The forms tell all variables.
    """
    vectors = unit_vectors(len(forms[0]))
    images = [[weight * form[place] for form, weight in zip(forms, weights)] for place in range(len(vectors))]
    gram = Gram(images)
    at = 1
    while at < len(vectors):
        _shorten(vectors, gram, at, at - 1)
        if gram.is_too_short(at):
            gram.swap(at)
            vectors[at - 1], vectors[at] = vectors[at], vectors[at - 1]
            at = max(1, at - 1)
            continue
        for other in range(at - 2, -1, -1):
            _shorten(vectors, gram, at, other)
        at += 1
    return vectors


def _shorten(vectors, gram, at, other):
    """Take off a vector what makes it lean least on another one."""
    times = gram.leaning(at, other)
    if times != 0:
        gram.shift(at, other, times)
        vectors[at] = [number - times * less for number, less in zip(vectors[at], vectors[other])]
