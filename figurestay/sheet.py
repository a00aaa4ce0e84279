"""Sheets: columns and formulas with names, and promises about the formulas that hold at all times."""

from figurestay.agree import parting
from figurestay.basics import is_name, need_name
from figurestay.dialects import need_dialect
from figurestay.errors import BadColumn, BadPromise, Broken, InUse, Taken, Unknown, WideColumn
from figurestay.events import first_event
from figurestay.exacts import unlike
from figurestay.formulas import need_formula
from figurestay.shaped import Shaped
from figurestay.shapes import Column
from figurestay.strays import stray
from figurestay.worths import Worth, compare

# What stands behind the word of each promise.
PROMISES = {"safe": ("name",), "equal": ("name", "name"), "agree": ("name", "name"), "near": ("name", "worth")}


class Page:
    """What a sheet holds at one time; it is never changed, only replaced."""

    def __init__(self, column_of, formula_of, made):
        self.column_of = column_of
        self.formula_of = formula_of
        self.made = made

    def with_column(self, name, column):
        """This page with a column of this name."""
        return Page({**self.column_of, name: column}, self.formula_of, self.made)

    def with_one_formula(self, name, formula):
        """This page with a formula of this name."""
        return Page(self.column_of, {**self.formula_of, name: formula}, self.made)

    def without(self, name):
        """This page without what has this name."""
        columns = {other: self.column_of[other] for other in self.column_of if other != name}
        formulas = {other: self.formula_of[other] for other in self.formula_of if other != name}
        return Page(columns, formulas, self.made)

    def with_made(self, made):
        """This page with these promises."""
        return Page(self.column_of, self.formula_of, made)


class Sheet:
    """Columns, formulas and promises in a dialect; deeds that would break a promise are refused."""

    def __init__(self, dialect):
        need_dialect(dialect)
        self.dialect = dialect
        self._page = Page({}, {}, [])
        self._past = []
        # Undo goes back no further than to so many deeds; in an attempt these are the ones ahead of it.
        self._floor = 0
        self._attempts = 0

    def set_column(self, name, column):
        """Add a column, or put it in the place of the one of this name."""
        need_name(name)
        if not isinstance(column, Column):
            raise BadColumn(column)
        if name in self._page.formula_of:
            raise Taken(name)
        if column.shape.width > self.dialect.cap:
            raise WideColumn(name)
        self._turn_to(self._page.with_column(name, column))

    def set_formula(self, name, formula):
        """Add a formula, or put it in the place of the one of this name."""
        need_name(name)
        need_formula(formula)
        if name in self._page.column_of:
            raise Taken(name)
        # Only a formula that can be shaped is taken.
        Shaped(formula, self._page.column_of, self.dialect)
        self._turn_to(self._page.with_one_formula(name, formula))

    def drop(self, name):
        """Remove a column or a formula that nothing needs."""
        need_name(name)
        page = self._page
        if name not in page.column_of and name not in page.formula_of:
            raise Unknown(name)
        if any([name in page.formula_of[other].names() for other in page.formula_of if name in page.column_of]):
            raise InUse(name)
        if any([name in _names_in(told) for told in page.made if name in page.formula_of]):
            raise InUse(name)
        self._turn_to(page.without(name))

    def promise(self, told):
        """Make a promise."""
        self._need_promise(told)
        made = self._page.made
        self._turn_to(self._page.with_made(made if told in made else made + [told]))

    def release(self, told):
        """Let a promise go."""
        made = self._page.made
        if not _is_promise(told) or told not in made:
            raise BadPromise(told)
        self._turn_to(self._page.with_made([other for other in made if other != told]))

    def attempt(self, action):
        """Call an action with this sheet; it counts as one deed, and promises are looked at behind it."""
        page, past, floor, attempts = self._page, list(self._past), self._floor, self._attempts
        done = None
        self._floor = len(past)
        self._attempts = attempts + 1
        try:
            action(self)
            if attempts == 0:
                self._need_all_kept(page, self._page)
            done = True
        finally:
            self._floor = floor
            self._attempts = attempts
            if done is None:
                self._page = page
                self._past = past
        self._past = past + [page]

    def undo(self):
        """Take back the last deed; False if there is none."""
        if len(self._past) <= self._floor:
            return False
        self._page = self._past.pop()
        return True

    def columns(self):
        """The columns, a new dict from names to Columns."""
        return dict(self._page.column_of)

    def formulas(self):
        """The formulas, a new dict from names to Formulas."""
        return dict(self._page.formula_of)

    def promises(self):
        """All promises in the order in which they were made, a new list."""
        return list(self._page.made)

    def shaped_of(self, name):
        """The Shaped of a formula with all columns."""
        need_name(name)
        if name not in self._page.formula_of:
            raise Unknown(name)
        return _shaped_on(self._page, name, self.dialect)

    def holds(self, told):
        """Whether a promise, made or not, holds."""
        self._need_promise(told)
        return _breaking(told, self._page, self.dialect) is None

    def _need_promise(self, told):
        """BadPromise for what is no promise, Unknown for the first of its names that is no formula."""
        if not _is_promise(told):
            raise BadPromise(told)
        for name in _names_in(told):
            if name not in self._page.formula_of:
                raise Unknown(name)

    def _turn_to(self, page):
        """One more deed: the sheet holds this page if that keeps all promises."""
        if self._attempts == 0:
            self._need_all_kept(self._page, page)
        self._past.append(self._page)
        self._page = page

    def _need_all_kept(self, old, page):
        """Broken for the first promise of a page that does not hold."""
        for told in page.made:
            # What held on the old page and speaks of nothing that is changed holds still.
            if told in old.made and _is_as_it_was(told, old, page):
                continue
            worths = _breaking(told, page, self.dialect)
            if worths is not None:
                raise Broken(told, worths)


def _is_promise(told):
    """Whether a value is the tuple of a promise."""
    if not isinstance(told, tuple) or len(told) == 0 or not isinstance(told[0], str) or told[0] not in PROMISES:
        return False
    kinds = PROMISES[told[0]]
    if len(told) != 1 + len(kinds):
        return False
    return all([is_name(value) if kind == "name" else isinstance(value, Worth) for kind, value in zip(kinds, told[1:])])


def _names_in(told):
    """The names of the formulas that a promise speaks of."""
    return [value for kind, value in zip(PROMISES[told[0]], told[1:]) if kind == "name"]


def _is_as_it_was(told, old, page):
    """Whether the formulas that a promise speaks of, and their columns, are the same on two pages."""
    for name in _names_in(told):
        if name not in old.formula_of or old.formula_of[name] != page.formula_of[name]:
            return False
        for other in page.formula_of[name].names():
            if old.column_of[other] != page.column_of[other]:
                return False
    return True


def _shaped_on(page, name, dialect):
    return Shaped(page.formula_of[name], page.column_of, dialect)


def _breaking(told, page, dialect):
    """Worths that break a promise, or None if it holds."""
    shapeds = [_shaped_on(page, name, dialect) for name in _names_in(told)]
    if told[0] == "equal":
        return unlike(shapeds[0], shapeds[1])
    if told[0] == "agree":
        return parting(shapeds[0], shapeds[1])
    if told[0] == "safe":
        event = first_event(shapeds[0])
        return None if event is None else event.kinds[sorted(event.kinds)[0]]
    for worth, worths in stray(shapeds[0]):
        if compare(abs(worth), told[2]) > 0:
            return worths
    return None
