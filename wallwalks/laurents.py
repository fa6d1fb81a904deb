"""Laurents: sums of whole numbers times powers of the letter q, also below 0."""

from wallwalks.errors import InvalidCoefficients, InvalidNumber, InvalidText
from wallwalks.limits import MOST_LAURENT, MOST_POWER
from wallwalks.polynomials import poly_product, poly_sum
from wallwalks.powers import power_of
from wallwalks.refusals import is_whole, is_whole_text, number_check

MOST_COEFFICIENTS = 800


def coefficients_check(coefficients):
    """Refuse what is no tuple of at most 800 whole numbers."""
    if not isinstance(coefficients, tuple):
        raise InvalidCoefficients(None)
    for at, number in enumerate(coefficients):
        if at == MOST_COEFFICIENTS or not is_whole(number):
            raise InvalidCoefficients(at)


def ends_cut(lowest, coefficients):
    """The lowest power and the coefficients, those with 0 at both ends left out."""
    filled = [at for at, number in enumerate(coefficients) if number != 0]
    if not filled:
        return (0, ())
    return (lowest + filled[0], tuple(coefficients[filled[0]:filled[-1] + 1]))


def term_of_text(text):
    """The pair of the power and the coefficient that a text of one term tells; None for what is no such text."""
    number, letter_read, power = text.partition("q")
    if not letter_read or not is_whole_text(number) or not is_whole_text(power) or number == "0":
        return None
    return (int(power), int(number))


def terms_of_text(text):
    """The pairs of powers and coefficients that the text of a laurent tells; None for what is no such text."""
    if not isinstance(text, str):
        return None
    if text == "0":
        return []
    terms = [term_of_text(part) for part in text.split(" ")]
    ahead = -MOST_LAURENT - 1
    for term in terms:
        if term is None or not ahead < term[0] <= MOST_LAURENT:
            return None
        ahead = term[0]
    return terms


class Laurent:
    """A sum of coefficients, each times a power of q; the first one stands at the lowest power."""

    def __init__(self, lowest, coefficients):
        number_check(lowest, -MOST_LAURENT, MOST_LAURENT)
        coefficients_check(coefficients)
        cut = ends_cut(lowest, coefficients)
        self._lowest = cut[0]
        self._coefficients = cut[1]

    @property
    def lowest(self):
        """The lowest power with a coefficient other than 0; 0 if there is none."""
        return self._lowest

    @property
    def highest(self):
        """The highest power with a coefficient other than 0; 0 if there is none."""
        return self._lowest + max(len(self._coefficients) - 1, 0)

    @property
    def coefficients(self):
        """The coefficients from the lowest power to the highest one."""
        return self._coefficients

    @property
    def barred(self):
        """The laurent that has at each power the coefficient at the opposite one."""
        return laurent_with(-self.highest, self._coefficients[::-1])

    @property
    def total(self):
        """The sum of the coefficients."""
        return sum(self._coefficients)

    @property
    def text(self):
        """The text of the laurent."""
        terms = [f"{number}q{self._lowest + at}" for at, number in enumerate(self._coefficients) if number != 0]
        return " ".join(terms) if terms else "0"

    @staticmethod
    def read(text):
        """The laurent with this text."""
        laurent = laurent_of_text(text)
        if laurent is None:
            raise InvalidText(text)
        return laurent

    def __eq__(self, other):
        return (
            isinstance(other, Laurent)
            and self._lowest == other._lowest and self._coefficients == other._coefficients
        )

    def __bool__(self):
        return bool(self._coefficients)

    def __add__(self, other):
        if not is_laurent(other):
            return NotImplemented
        return laurent_sum(self, laurent_of(other))

    def __radd__(self, other):
        if not is_laurent(other):
            return NotImplemented
        return laurent_sum(laurent_of(other), self)

    def __sub__(self, other):
        if not is_laurent(other):
            return NotImplemented
        return laurent_sum(self, -laurent_of(other))

    def __rsub__(self, other):
        if not is_laurent(other):
            return NotImplemented
        return laurent_sum(laurent_of(other), -self)

    def __mul__(self, other):
        if not is_laurent(other):
            return NotImplemented
        return laurent_product(self, laurent_of(other))

    def __rmul__(self, other):
        if not is_laurent(other):
            return NotImplemented
        return laurent_product(laurent_of(other), self)

    def __neg__(self):
        return laurent_with(self._lowest, [-number for number in self._coefficients])

    def __pow__(self, other):
        return self.power(other)

    def power(self, exponent):
        """The product of as many of this laurent as the exponent tells."""
        number_check(exponent, 0, MOST_POWER)
        return power_of(Laurent(0, (1,)), self, exponent)

    def coefficient(self, power):
        """The coefficient at a power."""
        if not is_whole(power):
            raise InvalidNumber(power)
        at = power - self._lowest
        return self._coefficients[at] if 0 <= at < len(self._coefficients) else 0


def laurent_with(lowest, coefficients):
    """The laurent with these coefficients, whatever its powers are, and however many there are."""
    made = Laurent(0, ())
    cut = ends_cut(lowest, coefficients)
    made._lowest = cut[0]
    made._coefficients = cut[1]
    return made


def laurent_of_text(text):
    """The laurent with this text; None for what is no such text."""
    terms = terms_of_text(text)
    if not terms:
        return None if terms is None else Laurent(0, ())
    numbers = {power: number for power, number in terms}
    lowest = terms[0][0]
    return laurent_with(lowest, [numbers.get(power, 0) for power in range(lowest, terms[-1][0] + 1)])


def is_laurent(value):
    """Whether a value is a laurent or a whole number."""
    return isinstance(value, Laurent) or is_whole(value)


def laurent_of(number):
    """The laurent for a laurent or a whole number."""
    return number if isinstance(number, Laurent) else laurent_with(0, (number,))


def from_power(laurent, low):
    """The coefficients of a laurent from a power on that is not above its lowest one."""
    return (0,) * (laurent.lowest - low) + laurent.coefficients


def laurent_sum(left, right):
    """The sum of two laurents."""
    low = min(left.lowest, right.lowest)
    return laurent_with(low, poly_sum(from_power(left, low), from_power(right, low)))


def laurent_product(left, right):
    """The product of two laurents."""
    return laurent_with(left.lowest + right.lowest, poly_product(left.coefficients, right.coefficients))


def letter(power):
    """The power of q."""
    return Laurent(power, (1,))
