"""Point 45 and the module quotients."""

import unittest

from oracle import CallCase, chance, odd_values, random_word
from wallwalks.changes import Change, plain
from wallwalks.ends import top
from wallwalks.errors import InvalidNumber, InvalidSigned, NotAPositive, NotAQuotient, NotATable, NotFinite, OtherTable
from wallwalks.positives import Positive, lifted, shared_back, shared_continuation, without_front
from wallwalks.quotients import Quotient, quotient_of, shadow, top_form
from wallwalks.sums import single, single_inverse
from wallwalks.tables import beside, chain, named

RING = named("~A2")
A2 = named("A2")
TABLES = tuple(named(name) for name in ("A1", "A2", "B2", "G2", "H2", "A3", "B3", "D4", "H3")) + (
    chain((2,)), chain((2, 4)), beside(A2, A2),
)


def random_signed(rng, table, most=7):
    return tuple(rng.choice((1, -1)) * rng.randrange(1, table.size + 1) for _ in range(rng.randrange(most + 1)))


def random_positive(rng, table, most=6):
    return Positive(table, random_word(rng, table.size, rng.randrange(most + 1)))


def empty(table):
    return Positive(table, ())


def freely_changed(rng, table, signed):
    """Another signed word of the same quotient: by what undoes itself put in or taken away, and by swaps."""
    for _ in range(3):
        at = rng.randrange(len(signed) + 1)
        s = rng.choice((1, -1)) * rng.randrange(1, table.size + 1)
        signed = signed[:at] + (s, -s) + signed[at:]
        if table.size > 1:
            a, b = rng.sample(range(table.size), 2)
            tie = table.ties[a][b]
            one = tuple((a + 1, b + 1)[k % 2] for k in range(tie))
            other = tuple((b + 1, a + 1)[k % 2] for k in range(tie))
            at = rng.randrange(len(signed) + 1)
            signed = signed[:at] + one + tuple(-k for k in other[::-1]) + signed[at:]
    return signed


class LowestTest(CallCase):
    def test_lowest_terms(self):
        for table in TABLES:
            rng = chance(191)
            for _ in range(10):
                x, y, z = (random_positive(rng, table) for _ in range(3))
                found = self.call(Quotient, dividend=x, divisor=y)
                self.assertEqual(found.table, table)
                self.assertEqual({type(found.dividend), type(found.divisor)}, {Positive})
                self.assertEqual(shared_back(found.dividend, found.divisor), empty(table))
                back = shared_back(x, y)
                self.assertEqual((found.dividend * back, found.divisor * back), (x, y))
                self.assertEqual(Quotient(x * z, y * z), found)
                signed = tuple(s + 1 for s in found.dividend.word) + tuple(-s - 1 for s in found.divisor.word[::-1])
                self.assertEqual(found.signed, signed)
                self.assertIs(bool(found), x != y)

    def test_equal_by_the_definition(self):
        equal = 0
        for table in TABLES:
            rng = chance(192)
            for _ in range(12):
                x, y = random_positive(rng, table, 3), random_positive(rng, table, 3)
                x2, y2 = random_positive(rng, table, 3), random_positive(rng, table, 3)
                if rng.randrange(2):
                    z = random_positive(rng, table, 2)
                    x2, y2 = x * z, y * z
                # y * z == y2 * z2 with the least continuation; every other one only puts more behind both sides.
                both = shared_continuation(y, y2, 60)
                expected = x * without_front(both, y) == x2 * without_front(both, y2)
                equal += expected
                self.assertIs(Quotient(x, y) == Quotient(x2, y2), expected)
                self.assertIs(Quotient(x, y) != Quotient(x2, y2), not expected)
        self.assertGreater(equal, 40)
        one = Quotient(empty(A2), empty(A2))
        self.assertIs(one == Quotient(empty(named("B2")), empty(named("B2"))), False)
        for value in odd_values() + [empty(A2), plain(A2), ()]:
            self.assertIs(one == value, False)
            self.assertIs(one != value, True)

    def test_positives_among_quotients(self):
        for table in TABLES:
            rng = chance(193)
            for _ in range(10):
                x, y = random_positive(rng, table), random_positive(rng, table)
                self.assertIs(Quotient(x, empty(table)) == Quotient(y, empty(table)), x == y)
                self.assertEqual(Quotient(x, empty(table)) * Quotient(y, empty(table)), Quotient(x * y, empty(table)))
                self.assertEqual(Quotient(x, empty(table)) * Quotient(y, empty(table)).inverse(), Quotient(x, y))


class ProductTest(CallCase):
    def test_products_and_inverses(self):
        for table in TABLES:
            rng = chance(194)
            one = quotient_of(table, ())
            for _ in range(8):
                a, b, c = (quotient_of(table, random_signed(rng, table)) for _ in range(3))
                self.assertEqual((a * b) * c, a * (b * c))
                self.assertEqual(a * a.inverse(), one)
                self.assertEqual(a.inverse() * a, one)
                self.assertEqual((a * one, one * a), (a, a))
                self.assertEqual((a * b).inverse(), b.inverse() * a.inverse())
                self.assertEqual(a.inverse(), Quotient(a.divisor, a.dividend))
                self.assertIs(type(a * b), Quotient)
                self.assertEqual(shared_back((a * b).dividend, (a * b).divisor), empty(table))

    def test_products_by_the_definition(self):
        for table in TABLES:
            rng = chance(195)
            for _ in range(8):
                x, y, x2, y2 = (random_positive(rng, table, 3) for _ in range(4))
                both = shared_continuation(y, x2, 60)
                expected = Quotient(x * without_front(both, y), y2 * without_front(both, x2))
                self.assertEqual(Quotient(x, y) * Quotient(x2, y2), expected)

    def test_powers(self):
        for table in TABLES:
            rng = chance(196)
            a = quotient_of(table, random_signed(rng, table, 4))
            expected = quotient_of(table, ())
            for exponent in range(9):
                self.assertEqual(self.call(a.power, exponent=exponent), expected)
                self.assertEqual(a ** exponent, expected)
                self.assertEqual(self.call(a.power, exponent=-exponent), expected.inverse())
                self.assertEqual(a ** -exponent, expected.inverse())
                expected = expected * a
        self.assertEqual((quotient_of(A2, (1, -2) * 30) ** 8).inverse(), quotient_of(A2, (2, -1) * 30) ** 8)


class SignedTest(CallCase):
    def test_quotients_of_signed_words(self):
        for table in TABLES:
            rng = chance(197)
            for _ in range(8):
                signed = random_signed(rng, table)
                found = self.call(quotient_of, table=table, signed=signed)
                expected = Quotient(empty(table), empty(table))
                for number in signed:
                    one = Positive(table, (abs(number) - 1,))
                    expected = expected * (Quotient(one, empty(table)) if number > 0 else Quotient(empty(table), one))
                self.assertEqual(found, expected)
                self.assertEqual(quotient_of(table, found.signed), found)
                self.assertEqual(quotient_of(table, freely_changed(rng, table, signed)), found)
                self.assertEqual(quotient_of(table, tuple(-number for number in signed[::-1])), found.inverse())

    def test_blends_of_signed_words(self):
        """Equal quotients must lead to equal blends, T(s) being pressed, and its inverse for what is undone."""
        for name in ("A2", "B2", "A3"):
            table = named(name)
            rng = chance(198)
            seen = {}
            for _ in range(40):
                signed = random_signed(rng, table, 5)
                blend = single(plain(table))
                for number in signed:
                    press = Change(table, (abs(number) - 1,))
                    blend = blend * (single(press) if number > 0 else single_inverse(press))
                key = quotient_of(table, signed).signed
                self.assertEqual(seen.setdefault(key, blend), blend)
                for other, held in seen.items():
                    self.assertIs(held == blend, other == key)

    def test_sixty(self):
        self.assertEqual(quotient_of(A2, (1, -1) * 30), quotient_of(A2, ()))
        self.assertEqual(quotient_of(A2, (1,) * 60).signed, (1,) * 60)
        self.assertEqual(quotient_of(A2, (-2,) * 60).signed, (-2,) * 60)
        long_one = quotient_of(named("A5"), (1, -2, 3, -4, 5, -3) * 10)
        self.assertEqual(long_one * long_one.inverse(), quotient_of(named("A5"), ()))
        self.assertIs(bool(quotient_of(A2, ())), False)
        self.assertIs(bool(long_one), True)

    def test_shadows(self):
        for table in TABLES:
            rng = chance(199)
            for _ in range(8):
                signed = random_signed(rng, table, 10)
                found = self.call(shadow, quotient=quotient_of(table, signed))
                self.assertEqual(found, Change(table, tuple(abs(number) - 1 for number in signed)))


class TopTest(CallCase):
    def test_top_forms(self):
        below = above = 0
        for table in TABLES:
            rng = chance(200)
            whole = lifted(top(table))
            delta = Quotient(whole, empty(table))
            for _ in range(10):
                a = quotient_of(table, random_signed(rng, table, 9))
                if rng.randrange(3) == 0:
                    a = a * delta
                power, grains = self.call(top_form, quotient=a)
                self.assertIs(type(power), int)
                self.assertIs(type(grains), tuple)
                below += power < 0
                above += power > 0
                made = Quotient(empty(table), empty(table))
                for _ in range(abs(power)):
                    made = made * (delta if power > 0 else delta.inverse())
                for change in grains:
                    self.assertIs(type(change), Change)
                    self.assertTrue(change)
                    made = made * Quotient(lifted(change), empty(table))
                self.assertEqual(made, a)
                self.assertNotIn(top(table), grains)
                for ahead, behind in zip(grains, grains[1:]):
                    self.assertTrue(set(behind.fronts) <= set(ahead.backs))
        self.assertGreater(min(below, above), 20)

    def test_of_tops(self):
        for table in TABLES:
            whole = lifted(top(table))
            self.assertEqual(top_form(Quotient(whole * whole, empty(table))), (2, ()))
            self.assertEqual(top_form(Quotient(empty(table), whole * whole * whole)), (-3, ()))
            self.assertEqual(top_form(Quotient(whole, whole)), (0, ()))
            for s in range(table.size):
                press = Change(table, (s,))
                led = Quotient(whole, empty(table)) * Quotient(lifted(press), empty(table))
                other = top(table) * press * top(table)
                self.assertEqual(led, Quotient(lifted(other), empty(table)) * Quotient(whole, empty(table)))
                expected = (1, (press,)) if table.size > 1 else (2, ())
                self.assertEqual(top_form(led), expected)


class WrongTest(CallCase):
    def test_wrong_makings(self):
        x, y, ring = Positive(A2, (0,)), Positive(named("B2"), (0,)), Positive(RING, (0,))
        for value in odd_values() + [A2, plain(A2), Quotient(x, x)]:
            self.refuses(NotAPositive(value), Quotient, dividend=value, divisor=0)
            self.refuses(NotAPositive(value), Quotient, dividend=x, divisor=value)
            self.refuses(NotAPositive(value), Quotient, dividend=ring, divisor=value)
        self.refuses(OtherTable(), Quotient, dividend=x, divisor=y)
        self.refuses(OtherTable(), Quotient, dividend=ring, divisor=y)
        self.refuses(NotFinite(), Quotient, dividend=ring, divisor=ring)
        with self.assertRaises(OtherTable):
            Quotient(x, x) * Quotient(y, y)

    def test_wrong_signed_words(self):
        for value in odd_values() + [plain(A2)]:
            self.refuses(NotATable(value), quotient_of, table=value, signed=value)
        for table in (A2, chain((0,))):
            for value in odd_values(but=(lambda v: type(v) is tuple,)) + [[1]]:
                self.refuses(InvalidSigned(None), quotient_of, table=table, signed=value)
            for value in odd_values(but=(lambda v: type(v) is int and abs(v) in (1, 2),)) + [0, 3, -3]:
                for at in (0, 1, 59):
                    self.refuses(InvalidSigned(at), quotient_of, table=table, signed=(1,) * at + (value, "x"))
            self.refuses(InvalidSigned(60), quotient_of, table=table, signed=(1,) * 61)
            self.refuses(InvalidSigned(60), quotient_of, table=table, signed=(-2,) * 60 + ("x",) * 2)
        self.refuses(NotFinite(), quotient_of, table=chain((0,)), signed=(1, -2))
        self.refuses(NotFinite(), quotient_of, table=RING, signed=())

    def test_wrong_quotients_and_exponents(self):
        one = quotient_of(A2, (1, -2))
        for value in odd_values() + [A2, plain(A2), empty(A2)]:
            self.refuses(NotAQuotient(value), top_form, quotient=value)
            self.refuses(NotAQuotient(value), shadow, quotient=value)
        for value in odd_values(but=(lambda v: type(v) is int and -8 <= v <= 8,)) + [9, -9]:
            self.refuses(InvalidNumber(value), one.power, exponent=value)
        for value in (9, -9, True, "2", None):
            with self.assertRaises(InvalidNumber) as caught:
                one ** value
            self.assertIs(caught.exception.given, value)


if __name__ == "__main__":
    unittest.main()
