"""Bases of the integer points of a space, made short as some forms measure them."""


class Basis:
    """Vectors of which each integer point is one sum of multiples, and the forms that tell these multiples."""

    def __init__(self, vectors, forms):
        self.vectors = vectors
        self.forms = forms


class Gram:
    """What the reduction of Lenstra, Lenstra and Lovasz keeps of some vectors, in integers alone.

    bulks holds the squared volumes of the first vectors; slants, times such a volume, how far a vector leans
    on one ahead of it.
    """

    def __init__(self, images):
        self.bulks = [1]
        self.slants = []
        for image in images:
            self._take(image, images)

    def _take(self, image, images):
        row, at = [], len(self.slants)
        for other in range(at + 1):
            lean = inner(image, images[other])
            known = row if other == at else self.slants[other]
            for place in range(other):
                lean = (self.bulks[place + 1] * lean - row[place] * known[place]) // self.bulks[place]
            row.append(lean)
        self.bulks.append(row.pop())
        self.slants.append(row)

    def leaning(self, at, other):
        """How many of another vector are to be taken off a vector."""
        bulk = self.bulks[other + 1]
        return (2 * self.slants[at][other] + bulk) // (2 * bulk)

    def shift(self, at, other, times):
        """So many of another vector are taken off a vector."""
        row, known = self.slants[at], self.slants[other]
        for place in range(other):
            row[place] = row[place] - times * known[place]
        row[other] = row[other] - times * self.bulks[other + 1]

    def is_too_short(self, at):
        """Whether a vector is to change places with the one ahead of it."""
        bulks, lean = self.bulks, self.slants[at][at - 1]
        return 4 * (bulks[at + 1] * bulks[at - 1] + lean * lean) < 3 * bulks[at] * bulks[at]

    def swap(self, at):
        """A vector changes places with the one ahead of it."""
        bulks, ahead = self.bulks, at - 1
        lean = self.slants[at][ahead]
        mine, other = self.slants[at][:ahead], self.slants[ahead]
        self.slants[at], self.slants[ahead] = other + [lean], mine
        bulk = (bulks[ahead] * bulks[at + 1] + lean * lean) // bulks[at]
        for row in self.slants[at + 1:]:
            old = row[at]
            row[at] = (bulks[at + 1] * row[ahead] - lean * old) // bulks[at]
            row[ahead] = (bulk * old + lean * row[at]) // bulks[at + 1]
        bulks[at] = bulk


def inner(one, other):
    """The sum of the products of the entries of two lists."""
    return sum([number * more for number, more in zip(one, other)])


def unit_basis(many):
    """The Basis of so many variables themselves."""
    units = unit_forms(many)
    return Basis(units, units)


def without_vector(basis, place):
    """The Basis without the vector in this place, and without the form that tells its multiples."""
    vectors, forms = basis.vectors, basis.forms
    return Basis(vectors[:place] + vectors[place + 1:], forms[:place] + forms[place + 1:])


def unit_forms(many):
    """For each of so many variables the form that is this variable."""
    return [[1 if place == other else 0 for other in range(many)] for place in range(many)]


def shortened(basis, forms, weights):
    """A Basis whose vectors are short, if each of as many forms as there are variables counts with its weight."""
    images = [
        [weight * inner(form, vector) for form, weight in zip(forms, weights)] for vector in basis.vectors
    ]
    gram = Gram(images)
    made = Basis(list(basis.vectors), list(basis.forms))
    at = 1
    while at < len(images):
        _shorten(made, gram, at, at - 1)
        if gram.is_too_short(at):
            gram.swap(at)
            made.vectors[at - 1], made.vectors[at] = made.vectors[at], made.vectors[at - 1]
            made.forms[at - 1], made.forms[at] = made.forms[at], made.forms[at - 1]
            at = max(1, at - 1)
            continue
        for other in range(at - 2, -1, -1):
            _shorten(made, gram, at, other)
        at += 1
    return made


def _shorten(basis, gram, at, other):
    """Take off a vector what makes it lean least on another one."""
    times = gram.leaning(at, other)
    if times == 0:
        return
    gram.shift(at, other, times)
    taken = basis.vectors[other]
    basis.vectors[at] = [number - times * less for number, less in zip(basis.vectors[at], taken)]
    added = basis.forms[at]
    basis.forms[other] = [number + times * more for number, more in zip(basis.forms[other], added)]
