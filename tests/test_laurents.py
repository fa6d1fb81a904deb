"""Point 38 and the module laurents."""

import unittest

from oracle import CallCase, chance, odd_values
from wallwalks.errors import InvalidCoefficients, InvalidNumber, InvalidText
from wallwalks.goldens import Golden
from wallwalks.laurents import Laurent, letter

NOUGHT, ONE = Laurent(0, ()), Laurent(0, (1,))


def random_laurent(rng, most=6, size=5):
    return Laurent(rng.randrange(-most, most + 1), tuple(rng.randrange(-3, 4) for _ in range(rng.randrange(size + 1))))


def dict_of(laurent):
    """From powers to coefficients other than 0."""
    return {laurent.lowest + at: number for at, number in enumerate(laurent.coefficients) if number}


def filled(numbers):
    return {power: number for power, number in numbers.items() if number}


def plus(left, right, factor=1):
    return filled({power: left.get(power, 0) + factor * right.get(power, 0) for power in {*left, *right}})


def times(left, right):
    made = {}
    for i, a in left.items():
        for j, b in right.items():
            made[i + j] = made.get(i + j, 0) + a * b
    return filled(made)


def text_of(numbers):
    return " ".join(f"{numbers[power]}q{power}" for power in sorted(numbers)) or "0"


class PropertyTest(CallCase):
    def test_parts(self):
        rng = chance(141)
        for _ in range(300):
            lowest = rng.randrange(-9, 10)
            coefficients = tuple(rng.choice((0, 0, 1, -1, 2, 10 ** 59, -7)) for _ in range(rng.randrange(6)))
            found = self.call(Laurent, lowest=lowest, coefficients=coefficients)
            numbers = {lowest + at: number for at, number in enumerate(coefficients) if number}
            self.assertEqual(found.lowest, min(numbers, default=0))
            self.assertEqual(found.highest, max(numbers, default=0))
            expected = tuple(numbers.get(power, 0) for power in range(min(numbers), max(numbers) + 1)) if numbers else ()
            self.assertEqual(found.coefficients, expected)
            self.assertEqual(type(found.coefficients), tuple)
            self.assertEqual(found.total, sum(coefficients))
            self.assertEqual(dict_of(found.barred), {-power: number for power, number in numbers.items()})
            self.assertEqual(found.barred.barred, found)
            self.assertEqual(found.text, text_of(numbers))
            for power in range(lowest - 2, lowest + 8):
                self.assertEqual(self.call(found.coefficient, power=power), numbers.get(power, 0))
            self.assertEqual([found.coefficient(power) for power in (10 ** 59, -(10 ** 59))], [0, 0])
            self.assertIs(bool(found), bool(numbers))

    def test_at_the_bounds(self):
        widest = Laurent(400, (1,) * 800)
        self.assertEqual((widest.highest, widest.barred.lowest, len(widest.coefficients)), (1199, -1199, 800))
        self.assertEqual(Laurent(-400, (0,) * 800), NOUGHT)
        self.assertEqual(Laurent(-400, (0,) * 799 + (5,)).lowest, 399)
        self.assertEqual(NOUGHT.coefficients, ())
        self.assertEqual((NOUGHT.lowest, NOUGHT.highest, NOUGHT.text, NOUGHT.total), (0, 0, "0", 0))
        self.assertEqual(Laurent(7, (0, 0)).lowest, 0)

    def test_letters(self):
        for power in (-400, -1, 0, 1, 400):
            self.assertEqual(self.call(letter, power=power), Laurent(power, (1,)))
        self.assertEqual((letter(400) * letter(400)).lowest, 800)

    def test_equal_ones(self):
        rng = chance(142)
        some = [random_laurent(rng, 1, 2) for _ in range(60)]
        for x in some:
            for y in some:
                self.assertIs(x == y, (x.lowest, x.coefficients) == (y.lowest, y.coefficients))
                self.assertIs(x != y, dict_of(x) != dict_of(y))
        self.assertIs(Laurent(0, (2,)) == 2, False)
        self.assertIs(NOUGHT == 0, False)
        self.assertIs(ONE == Golden(1), False)
        for value in odd_values():
            self.assertIs(ONE == value, False)
            self.assertIs(ONE != value, True)


class TextTest(CallCase):
    def test_texts_are_read_back(self):
        rng = chance(143)
        for _ in range(200):
            x = random_laurent(rng, 400, 3) if rng.randrange(2) else random_laurent(rng)
            if x.highest <= 400:
                self.assertEqual(self.call(Laurent.read, text=x.text), x)
        self.assertEqual(Laurent(-1, (1, 0, -2)).text, "1q-1 -2q1")
        self.assertEqual(Laurent.read("-2q-400 3q400"), 3 * letter(400) - 2 * letter(-400))
        self.assertEqual(len(Laurent.read("1q-400 1q400").coefficients), 801)
        big = Laurent(0, (10 ** 59, -(10 ** 59)))
        self.assertEqual(Laurent.read(big.text), big)
        every = Laurent(-400, (-9,) * 800)
        self.assertGreater(len(every.text), 4000)
        self.assertEqual(Laurent.read(every.text), every)

    def test_what_is_no_text(self):
        for text in ("", " ", "1", "q", "1q", "q1", "0q0", "-0q1", "00", "-0", "+1q0", "1q+0", "01q0", "1q00", "1q-0", "1q01",
                     "1q0 ", " 1q0", "1q0  1q1", "1q1 1q0", "1q0 1q0", "1q0,1q1", "1Q0", "1q401", "1q-401", "1q0 0q1", "0 1q1",
                     "1q0 0", "1 q0", "1q 0", "1q0q0", "--1q0", "1q--1", "1.0q0", "1q0 + 1q1", "1q1 2", "1q1000000000000"):
            self.refuses(InvalidText(text), Laurent.read, text=text)
        for value in odd_values(but=(lambda v: type(v) is str and v == "0",)) + [ONE, 0]:
            self.refuses(InvalidText(value), Laurent.read, text=value)


class SignTest(CallCase):
    def test_sums_and_products(self):
        rng = chance(144)
        for _ in range(300):
            x, y = random_laurent(rng), random_laurent(rng)
            a, b = dict_of(x), dict_of(y)
            for found, expected in ((x + y, plus(a, b)), (x - y, plus(a, b, -1)), (x * y, times(a, b)), (-x, plus({}, a, -1))):
                self.assertIs(type(found), Laurent)
                self.assertEqual(dict_of(found), expected)
                self.assertEqual(found, Laurent(found.lowest, found.coefficients))
            self.assertEqual((x + y).barred, x.barred + y.barred)
            self.assertEqual((x * y).barred, x.barred * y.barred)
            self.assertEqual((x * y).total, x.total * y.total)
            self.assertEqual((dict_of(x), dict_of(y)), (a, b))

    def test_whole_numbers_on_either_side(self):
        rng = chance(145)
        for _ in range(100):
            x, k = random_laurent(rng), rng.choice((0, 1, -1, 2, 10 ** 59))
            whole = Laurent(0, (k,))
            for found, expected in ((x + k, x + whole), (k + x, x + whole), (x - k, x - whole), (k - x, whole - x),
                                    (x * k, x * whole), (k * x, x * whole)):
                self.assertIs(type(found), Laurent)
                self.assertEqual(found, expected)

    def test_powers(self):
        rng = chance(146)
        for _ in range(40):
            x = random_laurent(rng, 3, 3)
            expected = ONE
            for exponent in range(8):
                self.assertEqual(self.call(x.power, exponent=exponent), expected)
                self.assertEqual(x ** exponent, expected)
                expected = expected * x
        self.assertEqual(NOUGHT ** 0, ONE)
        self.assertEqual(NOUGHT ** 64, NOUGHT)
        high = letter(400) ** 64
        self.assertEqual((high.lowest, high.text), (25600, "1q25600"))
        self.assertEqual((Laurent(0, (1, 1)) ** 64).total, 2 ** 64)
        self.assertEqual(high * letter(-400) ** 64, ONE)
        self.assertEqual(high.coefficient(25600), 1)
        text = high.text
        self.refuses(InvalidText(text), Laurent.read, text=text)


class WrongTest(CallCase):
    def test_wrong_makings(self):
        for value in odd_values(but=(lambda v: type(v) is int and -400 <= v <= 400,)) + [401, -401, ONE, Golden(1)]:
            self.refuses(InvalidNumber(value), Laurent, lowest=value, coefficients=value)
            self.refuses(InvalidNumber(value), letter, power=value)
        for value in odd_values(but=(lambda v: type(v) is tuple,)) + [[1, 2], ONE]:
            self.refuses(InvalidCoefficients(None), Laurent, lowest=-400, coefficients=value)
        for value in odd_values(but=(lambda v: type(v) is int,)) + [ONE, Golden(1)]:
            for at in (0, 1, 799):
                self.refuses(InvalidCoefficients(at), Laurent, lowest=0, coefficients=(1,) * at + (value, "x"))
        self.refuses(InvalidCoefficients(800), Laurent, lowest=0, coefficients=(1,) * 801)
        self.refuses(InvalidCoefficients(800), Laurent, lowest=0, coefficients=(0,) * 800 + ("x", "x"))

    def test_wrong_numbers(self):
        for value in odd_values(but=(lambda v: type(v) is int and 0 <= v <= 64,)) + [65]:
            self.refuses(InvalidNumber(value), ONE.power, exponent=value)
        for value in (65, -1, True, "2", None):
            with self.assertRaises(InvalidNumber) as caught:
                ONE ** value
            self.assertIs(caught.exception.given, value)
        for value in odd_values(but=(lambda v: type(v) is int,)) + [ONE]:
            self.refuses(InvalidNumber(value), ONE.coefficient, power=value)


if __name__ == "__main__":
    unittest.main()
