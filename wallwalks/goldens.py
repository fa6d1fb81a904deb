"""Golden numbers: a + b * g with whole numbers a, b, and g * g = g + 1."""

from wallwalks.errors import InvalidNumber, InvalidText
from wallwalks.limits import MOST_POWER
from wallwalks.powers import power_of
from wallwalks.refusals import is_whole, is_whole_text, number_check
from wallwalks.turning import pair_product, pair_sign


def parts_of_text(text):
    """The pair of parts that the text of a golden number tells; None for what is no such text."""
    if not isinstance(text, str):
        return None
    if not text.endswith("g"):
        return (int(text), 0) if is_whole_text(text) else None
    body = text[:-1]
    cut = max(body.rfind("+"), body.rfind("-"))
    if cut < 0:
        return None
    whole, size = body[:cut], body[cut + 1:]
    if not is_whole_text(whole) or not is_whole_text(size) or size == "0":
        return None
    return (int(whole), int(size) if body[cut] == "+" else -int(size))


class Golden:
    """The golden number whole + gold * g."""

    def __init__(self, whole, gold=0):
        for part in (whole, gold):
            if not is_whole(part):
                raise InvalidNumber(part)
        self._whole = whole
        self._gold = gold

    @property
    def whole(self):
        """The part without g."""
        return self._whole

    @property
    def gold(self):
        """How many times g is in it."""
        return self._gold

    @property
    def sign(self):
        """1, 0 or -1."""
        return pair_sign(self._whole, self._gold)

    @property
    def text(self):
        """The text of the number."""
        if self._gold == 0:
            return str(self._whole)
        return f"{self._whole}{self._gold:+d}g"

    @staticmethod
    def read(text):
        """The golden number with this text."""
        parts = parts_of_text(text)
        if parts is None:
            raise InvalidText(text)
        return Golden(parts[0], parts[1])

    def __eq__(self, other):
        return isinstance(other, Golden) and self._whole == other._whole and self._gold == other._gold

    def __bool__(self):
        return bool(self._whole) or bool(self._gold)

    def __add__(self, other):
        if not is_number(other):
            return NotImplemented
        number = golden(other)
        return Golden(self._whole + number.whole, self._gold + number.gold)

    def __radd__(self, other):
        if not is_number(other):
            return NotImplemented
        return golden(other) + self

    def __sub__(self, other):
        if not is_number(other):
            return NotImplemented
        number = golden(other)
        return Golden(self._whole - number.whole, self._gold - number.gold)

    def __rsub__(self, other):
        if not is_number(other):
            return NotImplemented
        return golden(other) - self

    def __mul__(self, other):
        if not is_number(other):
            return NotImplemented
        number = golden(other)
        whole, gold = pair_product((self._whole, self._gold), (number.whole, number.gold))
        return Golden(whole, gold)

    def __rmul__(self, other):
        if not is_number(other):
            return NotImplemented
        return golden(other) * self

    def __neg__(self):
        return Golden(-self._whole, -self._gold)

    def __pow__(self, other):
        return self.power(other)

    def power(self, exponent):
        """The product of as many of this number as the exponent tells."""
        number_check(exponent, 0, MOST_POWER)
        return power_of(Golden(1), self, exponent)

    def is_below(self, other):
        """Whether the number is less than a golden or whole number."""
        return (self - golden(other)).sign < 0


def is_number(value):
    """Whether a value is a golden or whole number."""
    return isinstance(value, Golden) or is_whole(value)


def golden(number):
    """The Golden for a golden or whole number."""
    if isinstance(number, Golden):
        return number
    return Golden(number)


def golden_vector(vector):
    """The tuple of Goldens for a tuple of pairs."""
    return tuple([Golden(whole, gold) for whole, gold in vector])
