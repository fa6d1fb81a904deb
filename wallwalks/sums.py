"""Sums with a letter: blends, which give each change of a finite table a laurent, and their product.

While they are reckoned with, the shares of a blend are held as a dict from
the marks of changes (module turning) to their laurents.
"""

from wallwalks.changes import Change, change_check, change_with, in_order, tables_check
from wallwalks.ends import listed_check
from wallwalks.errors import InvalidTerms
from wallwalks.laurents import Laurent, is_laurent, laurent_of, letter
from wallwalks.tables import table_check
from wallwalks.turning import is_front, marks_ahead, plain_marks


def is_blend_term(table, value):
    """Whether a value is a pair of a change of the table and a laurent or whole number."""
    if not isinstance(value, tuple) or len(value) != 2:
        return False
    return isinstance(value[0], Change) and value[0].table == table and is_laurent(value[1])


def terms_check(table, terms):
    """Refuse what is no tuple of terms of unlike changes of the table."""
    if not isinstance(terms, tuple):
        raise InvalidTerms(None)
    ahead = {}
    for at, term in enumerate(terms):
        if not is_blend_term(table, term) or term[0].word in ahead:
            raise InvalidTerms(at)
        ahead[term[0].word] = True


def terms_of(pairs):
    """The terms of pairs of unlike changes and laurents: in order, and those with 0 left out."""
    laurents = {change.word: laurent for change, laurent in pairs}
    changes = in_order([change for change, _ in pairs])
    return tuple([(change, laurents[change.word]) for change in changes if laurents[change.word]])


class Blend:
    """A laurent for each change of a finite table."""

    def __init__(self, table, terms):
        table_check(table)
        terms_check(table, terms)
        listed_check(table)
        self._table = table
        self._terms = terms_of([(change, laurent_of(laurent)) for change, laurent in terms])

    @property
    def table(self):
        """The table."""
        return self._table

    @property
    def terms(self):
        """The pairs of changes and their laurents, in order, those with 0 left out."""
        return self._terms

    @property
    def barred(self):
        """The blend with all laurents barred, and the inverse of T(inverse of w) in the place of each T(w)."""
        barred = [(change, laurent.barred) for change, laurent in self._terms]
        start = {plain_marks(self._table.size): Laurent(0, (1,))}
        return blend_with(self._table, pressed_by_all(self._table.bonds, barred, start, True))

    @property
    def backward(self):
        """The blend that gives the inverse of a change what this one gives the change."""
        return Blend(self._table, tuple([(change.inverse(), laurent) for change, laurent in self._terms]))

    def __eq__(self, other):
        return isinstance(other, Blend) and self._table == other._table and self._terms == other._terms

    def __bool__(self):
        return bool(self._terms)

    def __add__(self, other):
        if not isinstance(other, Blend):
            return NotImplemented
        tables_check(self, other)
        return blend_with(self._table, together(shares_of(self), shares_of(other)))

    def __sub__(self, other):
        if not isinstance(other, Blend):
            return NotImplemented
        return self + (-other)

    def __mul__(self, other):
        if is_laurent(other):
            return blend_with(self._table, multiplied(shares_of(self), laurent_of(other)))
        if not isinstance(other, Blend):
            return NotImplemented
        tables_check(self, other)
        return blend_with(self._table, pressed_by_all(self._table.bonds, self._terms, shares_of(other), False))

    def __rmul__(self, other):
        if not is_laurent(other):
            return NotImplemented
        return self * other

    def __neg__(self):
        return blend_with(self._table, multiplied(shares_of(self), Laurent(0, (-1,))))

    def at(self, change):
        """The laurent that the blend gives a change."""
        change_check(change)
        tables_check(self, change)
        shares = shares_of(self)
        return shares[change.marks] if change.marks in shares else Laurent(0, ())


def shares_of(blend):
    """The shares of a blend."""
    return {change.marks: laurent for change, laurent in blend.terms}


def blend_with(table, shares):
    """The blend with these shares, perhaps some of 0."""
    made = Blend(table, ())
    made._terms = terms_of([(change_with(table, marks), laurent) for marks, laurent in shares.items() if laurent])
    return made


def together(shares, others):
    """The sums of shares, change by change."""
    made = {marks: laurent for marks, laurent in shares.items()}
    for marks, laurent in others.items():
        made[marks] = made[marks] + laurent if marks in made else laurent
    return made


def multiplied(shares, factor):
    """The shares, all of them multiplied with a laurent."""
    return {marks: factor * laurent for marks, laurent in shares.items()}


def pressed(bonds, shares, button, is_undone):
    """T(button), or its inverse, times the blend with these shares.

    T(s) * T(w) is T(s * w) if s is no front button of w, else q * T(s * w) + (q - 1) * T(w);
    the inverse of T(s) leads likewise, with front buttons where the others were, and q**-1 for q.
    """
    power = letter(-1 if is_undone else 1)
    kept = {}
    led = {}
    for marks, laurent in shares.items():
        ahead = marks_ahead(bonds, marks, button)
        if is_front(marks, button) == is_undone:
            led[ahead] = laurent
        else:
            led[ahead] = power * laurent
            kept[marks] = led[ahead] - laurent
    return together(led, kept)


def pressed_by_all(bonds, terms, shares, is_undone):
    """The sum over all terms of their laurents times T of their changes times the blend with these shares.

    Where undone, the inverse of T(inverse of w) stands for each T(w). From the
    longest words on, what has been found is pressed by its last button, and
    goes to the word without that.
    """
    sums = {change.word: multiplied(shares, laurent) for change, laurent in terms}
    longest = max([len(word) for word in sums] + [0])
    for length in range(longest, 0, -1):
        for word in [word for word in sums if len(word) == length]:
            led = pressed(bonds, sums[word], word[-1], is_undone)
            sums[word[:-1]] = together(led, sums.get(word[:-1], {}))
    return sums.get((), {})


def single(change):
    """The blend with 1 at the change and 0 elsewhere."""
    change_check(change)
    return Blend(change.table, ((change, 1),))


def single_inverse(change):
    """The inverse of the blend with 1 at the change and 0 elsewhere."""
    change_check(change)
    shares = shares_of(single(Change(change.table, ())))
    for button in change.word:
        shares = pressed(change.table.bonds, shares, button, True)
    return blend_with(change.table, shares)
