"""Quotients of positives of a finite table: what words make whose buttons are pressed or undone."""

from wallwalks.changes import change_of, tables_check
from wallwalks.ends import finite_check, top_of
from wallwalks.errors import InvalidSigned, NotAQuotient
from wallwalks.heads import continued, heads_of_product
from wallwalks.limits import MOST_WORD
from wallwalks.positives import Positive, positive_check, positive_with, shared_back, without_back
from wallwalks.powers import power_of
from wallwalks.refusals import is_whole_within, number_check
from wallwalks.tables import table_check
from wallwalks.turning import axis_of, opposite, turned_by
from wallwalks.walls import own_button

MOST_EXPONENT = 8


class Quotient:
    """A positive, the dividend, divided at the back by another one, the divisor; held in lowest terms."""

    def __init__(self, dividend, divisor):
        positive_check(dividend)
        positive_check(divisor)
        tables_check(dividend, divisor)
        finite_check(dividend.table)
        shared = shared_back(dividend, divisor)
        self._dividend = without_back(dividend, shared) if shared else dividend
        self._divisor = without_back(divisor, shared) if shared else divisor

    @property
    def table(self):
        """The table."""
        return self._dividend.table

    @property
    def dividend(self):
        """The dividend in lowest terms."""
        return self._dividend

    @property
    def divisor(self):
        """The divisor in lowest terms."""
        return self._divisor

    @property
    def signed(self):
        """The dividend's first word pressed, and behind it the divisor's, from its last button on, undone."""
        pressed = [button + 1 for button in self._dividend.word]
        return tuple(pressed + [-button - 1 for button in self._divisor.word[::-1]])

    def __eq__(self, other):
        return (
            isinstance(other, Quotient)
            and self._dividend == other._dividend and self._divisor == other._divisor
        )

    def __bool__(self):
        return bool(self._dividend) or bool(self._divisor)

    def __mul__(self, other):
        if not isinstance(other, Quotient):
            return NotImplemented
        tables_check(self, other)
        return quotient_product(self, other)

    def __pow__(self, other):
        return self.power(other)

    def power(self, exponent):
        """The product of as many of this quotient, or of its inverse, as the exponent tells."""
        number_check(exponent, -MOST_EXPONENT, MOST_EXPONENT)
        base = self if exponent > 0 else self.inverse()
        return power_of(empty_quotient(self.table), base, abs(exponent))

    def inverse(self):
        """The quotient that undoes this one."""
        return Quotient(self._divisor, self._dividend)


def empty_quotient(table):
    """The quotient of the empty signed word."""
    empty = Positive(table, ())
    return Quotient(empty, empty)


def whole_top(table):
    """The longest change of a finite table."""
    return top_of(table, tuple(range(table.size)))


def quotient_product(quotient, other):
    """The product of two quotients: the first divisor and the other dividend go on to their common continuation."""
    table = quotient.table
    heads, further = quotient.divisor.heads, other.dividend.heads
    # No common continuation is longer than so many tops.
    most = whole_top(table).length * (len(heads) + len(further))
    behind = continued(table, heads, further, most)
    dividend = heads_of_product(table, quotient.dividend.heads + tuple(behind[0]), ())
    divisor = heads_of_product(table, other.divisor.heads + tuple(behind[1]), ())
    return Quotient(positive_with(table, dividend), positive_with(table, divisor))


def quotient_check(value):
    """Refuse what is no quotient."""
    if not isinstance(value, Quotient):
        raise NotAQuotient(value)


def signed_check(table, signed):
    """Refuse what is no signed word of at most 60 buttons of the table."""
    if not isinstance(signed, tuple):
        raise InvalidSigned(None)
    for at, number in enumerate(signed):
        if at == MOST_WORD or not is_whole_within(number, -table.size, table.size) or number == 0:
            raise InvalidSigned(at)


def runs_of(signed):
    """The stretches of a signed word that are pressed, or undone, throughout."""
    runs = []
    for number in signed:
        if runs and (runs[-1][-1] > 0) == (number > 0):
            runs[-1] = runs[-1] + (number,)
        else:
            runs.append((number,))
    return runs


def run_quotient(table, run):
    """The quotient of a signed word that is pressed, or undone, throughout."""
    empty = Positive(table, ())
    if run[0] > 0:
        return Quotient(Positive(table, tuple([number - 1 for number in run])), empty)
    return Quotient(empty, Positive(table, tuple([-number - 1 for number in run[::-1]])))


def quotient_of(table, signed):
    """The quotient that a signed word makes."""
    table_check(table)
    signed_check(table, signed)
    finite_check(table)
    made = empty_quotient(table)
    for run in runs_of(signed):
        made = made * run_quotient(table, run)
    return made


def partners(table, top):
    """For each button s the button that the change top * s * top makes."""
    axes = [turned_by(table.bonds, axis_of(table.size, button), top.word) for button in range(table.size)]
    return tuple([own_button(opposite(axis)) for axis in axes])


def top_form(quotient):
    """The pair of the power of top and of the changes whose lifts, behind it, make the quotient."""
    quotient_check(quotient)
    table = quotient.table
    top = whole_top(table)
    across = partners(table, top)
    heads = quotient.dividend.heads
    power = 0
    for head in quotient.divisor.heads[::-1]:
        # To undo a head is to press what makes top behind it, and to undo top, which goes to the front.
        rest = (change_of(table, head).inverse() * top).word
        made = heads_of_product(table, heads + (rest,), ())
        heads = tuple([tuple([across[button] for button in word]) for word in made])
        power = power - 1
    while heads and len(heads[0]) == top.length:
        heads = heads[1:]
        power = power + 1
    return power, tuple([change_of(table, head) for head in heads])


def shadow(quotient):
    """The change to which pressing, and undoing taken for pressing, leads."""
    quotient_check(quotient)
    return change_of(quotient.table, quotient.dividend.word + quotient.divisor.word[::-1])
