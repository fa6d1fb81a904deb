"""Point 6 and the module goldens."""

import unittest
from decimal import Decimal, localcontext

from oracle import CallCase, chance, g_sign, odd_values
from wallwalks.errors import InvalidNumber, InvalidText
from wallwalks.goldens import Golden, golden

G = Golden(0, 1)
PARTS = (0, 1, -1, 2, -3, 10, -89, 144, 10 ** 59, -(10 ** 60 - 1), 1 << 13000, -(1 << 12999))


def is_int(value):
    return type(value) is int


class GoldenTest(CallCase):
    def test_parts(self):
        for whole in PARTS:
            for gold in PARTS:
                made = self.call(Golden, whole=whole, gold=gold)
                self.assertEqual((made.whole, made.gold), (whole, gold))
            self.assertEqual((Golden(whole).whole, Golden(whole=whole).gold), (whole, 0))

    def test_equal_exactly_if_the_parts_are(self):
        some = [Golden(a, b) for a in (-1, 0, 1, 2) for b in (-1, 0, 1, 2)]
        for i, x in enumerate(some):
            for j, y in enumerate(some):
                self.assertIs(x == y, i == j)
                self.assertIs(x != y, i != j)
        self.assertEqual(Golden(3, 4), Golden(3, 4))
        for value in odd_values() + [2, 2.0, (2, 0)]:
            self.assertIs(Golden(2) == value, False)
            self.assertIs(Golden(2) != value, True)
        self.assertIs(2 == Golden(2), False)

    def test_true_exactly_if_not_nought(self):
        self.assertIs(bool(Golden(0)), False)
        for x in (Golden(1), Golden(0, 1), Golden(-1, 1), Golden(0, -2)):
            self.assertIs(bool(x), True)

    def test_sign(self):
        fib = [0, 1]
        while len(fib) < 60:
            fib.append(fib[-1] + fib[-2])
        near = [(a * s, -b * s) for a, b in zip(fib[1:], fib) for s in (1, -1)]
        rng = chance(1)
        rest = [(rng.randrange(-50, 50), rng.randrange(-50, 50)) for _ in range(300)]
        for a, b in near + rest:
            self.assertEqual(Golden(a, b).sign, g_sign((a, b)), (a, b))
        self.assertEqual([Golden(0).sign, Golden(5).sign, Golden(-5).sign], [0, 1, -1])
        huge = 10 ** 59
        with localcontext() as context:
            context.prec = 200
            g = (1 + Decimal(5).sqrt()) / 2
            for a in (int(huge * g), int(huge * g) + 1):
                self.assertEqual(Golden(a, -huge).sign, 1 if a > huge * g else -1)
                self.assertEqual(Golden(-a, huge).sign, -1 if a > huge * g else 1)

    def test_sums_differences_products(self):
        rng = chance(2)
        for _ in range(200):
            a, b, c, d = (rng.choice((rng.randrange(-9, 10), rng.randrange(-(10 ** 60), 10 ** 60))) for _ in range(4))
            x, y = Golden(a, b), Golden(c, d)
            self.assertEqual(x + y, Golden(a + c, b + d))
            self.assertEqual(x - y, Golden(a - c, b - d))
            self.assertEqual(x * y, Golden(a * c + b * d, a * d + b * c + b * d))
            self.assertEqual(-x, Golden(-a, -b))
            self.assertEqual([x + c, c + x, x - c, c - x, x * c, c * x], [
                Golden(a + c, b), Golden(a + c, b), Golden(a - c, b), Golden(c - a, -b),
                Golden(a * c, b * c), Golden(a * c, b * c),
            ])
            self.assertEqual((x.whole, x.gold, y.whole, y.gold), (a, b, c, d))
        self.assertEqual(G * G, G + 1)

    def test_signs_with_anything_else(self):
        for value in ("1", None, (1,), [], True):
            for act in (lambda: G + value, lambda: value + G, lambda: G - value, lambda: value - G, lambda: G * value,
                        lambda: value * G):
                self.assertRaises(TypeError, act)

    def test_signs_give_goldens(self):
        for made in (G + 1, 1 + G, G - 1, 1 - G, G * 2, 2 * G, -G, G ** 0, G ** 1, G - G):
            self.assertIs(type(made), Golden)

    def test_powers(self):
        for x in (Golden(0), Golden(1), Golden(-2), G, Golden(3, -2), Golden(10 ** 59, 10 ** 59)):
            made = Golden(1)
            for k in range(65):
                self.assertEqual(self.call(x.power, exponent=k), made)
                self.assertEqual(x ** k, made)
                made = made * x

    def test_wrong_powers(self):
        for value in odd_values(but=(lambda v: is_int(v) and 0 <= v <= 64,)) + [65]:
            self.refuses(InvalidNumber(value), G.power, exponent=value)
            with self.assertRaises(InvalidNumber) as caught:
                G ** value
            self.assertIs(caught.exception.given, value)

    def test_which_is_less(self):
        some = [Golden(a, b) for a in (-2, -1, 0, 1, 2) for b in (-2, -1, 0, 1, 3)]
        for x in some:
            for y in some:
                less = g_sign((x.whole - y.whole, x.gold - y.gold)) < 0
                self.assertIs(self.call(x.is_below, other=y), less)
            self.assertIs(x.is_below(1), g_sign((x.whole - 1, x.gold)) < 0)
        self.assertIs(G.is_below(2), True)
        self.assertIs(G.is_below(1), False)
        self.assertIs(Golden(2).is_below(2), False)
        for value in odd_values(but=(is_int,)):
            self.refuses(InvalidNumber(value), G.is_below, other=value)

    def test_text(self):
        self.assertEqual(
            [Golden(2).text, Golden(-1, 3).text, Golden(0, -1).text, Golden(0).text, Golden(-7).text, Golden(5, 1).text],
            ["2", "-1+3g", "0-1g", "0", "-7", "5+1g"],
        )
        for whole in PARTS:
            for gold in PARTS:
                x = Golden(whole, gold)
                self.assertEqual(self.call(Golden.read, text=x.text), x)
        self.assertEqual(G.read("1-2g"), Golden(1, -2))
        long = "7" * 4000
        self.assertEqual(Golden.read("-" + long), Golden(-int(long)))
        both = Golden(int(long), -int(long)).text
        self.assertEqual(Golden.read(both).text, both)

    def test_wrong_texts(self):
        wrong = (
            "", "-", "+", "g", "1g", "-1g", "12g", "-12g", "+12g", "+1", "+1+1g", "00", "01", "-0", "-0+1g", "1+0g", "1-0g", "1+01g", "1++1g",
            "1+-1g", "1--1g", "1+1", "1+1g ", " 1", "1 ", "1 +1g", "1+1G", "1+g", "1+1g1", "1+1gg", "--1", "1_0", "0x1",
            "1.0", "1e1", "+g", "-g", "1-", "1+1-1g", "1+2+3g", "g1",
        )
        for text in wrong:
            self.refuses(InvalidText(text), Golden.read, text=text)
        for value in odd_values(but=(lambda v: v == "0" if type(v) is str else False,)):
            self.refuses(InvalidText(value), Golden.read, text=value)

    def test_wrong_parts(self):
        for value in odd_values(but=(is_int,)) + [Golden(1)]:
            self.refuses(InvalidNumber(value), Golden, whole=value, gold=1)
            self.refuses(InvalidNumber(value), Golden, whole=1, gold=value)
            self.refuses(InvalidNumber(value), Golden, whole=value)
        first, second = "a", "b"
        self.refuses(InvalidNumber(first), Golden, whole=first, gold=second)

    def test_golden(self):
        x = Golden(4, 5)
        self.assertEqual(self.call(golden, number=x), x)
        self.assertEqual(self.call(golden, number=-3), Golden(-3))
        for value in odd_values(but=(is_int,)):
            self.refuses(InvalidNumber(value), golden, number=value)


if __name__ == "__main__":
    unittest.main()
