"""Points 39, 40 for barred blends, and the module sums."""

import itertools
import unittest

import oracle
from oracle import CallCase, chance, odd_values
from wallwalks.changes import Change, plain
from wallwalks.ends import top
from wallwalks.errors import InvalidTerms, NotAChange, NotATable, NotFinite, OtherTable, TooMany
from wallwalks.laurents import Laurent, letter
from wallwalks.subwords import all_under
from wallwalks.sums import Blend, single, single_inverse
from wallwalks.tables import beside, chain, named

Q = letter(1)
ONE, NOUGHT = Laurent(0, (1,)), Laurent(0, ())
TABLES = tuple(named(name) for name in ("A1", "A2", "B2", "G2", "A3", "B3", "H2")) + (
    chain((2,)), chain((2, 5)), beside(named("A2"), named("A1")),
)
RING = named("~A2")


def random_laurent(rng):
    return Laurent(rng.randrange(-3, 3), tuple(rng.randrange(-2, 3) for _ in range(rng.randrange(3))))


def random_blend(rng, table, most=4):
    changes = rng.sample(all_under(top(table)), min(most, len(all_under(top(table)))))
    return Blend(table, tuple((change, random_laurent(rng)) for change in changes))


def value_at_1(blend):
    return {change.word: laurent.total for change, laurent in blend.terms if laurent.total}


class MakingTest(CallCase):
    def test_terms(self):
        rng = chance(151)
        for table in TABLES:
            every = all_under(top(table))
            for _ in range(15):
                chosen = rng.sample(every, rng.randrange(len(every) + 1))
                given = tuple((change, rng.choice((random_laurent(rng), rng.randrange(-2, 3)))) for change in chosen)
                found = self.call(Blend, table=table, terms=given)
                held = {change.word: laurent if isinstance(laurent, Laurent) else Laurent(0, (laurent,)) for change, laurent in given}
                expected = [(change, held[change.word]) for change in every if held.get(change.word, NOUGHT) != NOUGHT]
                self.assertEqual(found.terms, tuple(expected))
                self.assertEqual(type(found.terms), tuple)
                self.assertTrue(all(type(laurent) is Laurent for _, laurent in found.terms))
                self.assertEqual(found.table, table)
                self.assertIs(bool(found), bool(expected))
                for change in every:
                    self.assertEqual(self.call(found.at, change=change), held.get(change.word, NOUGHT))
        self.assertEqual(Blend(named("A2"), ()).terms, ())

    def test_equal_ones(self):
        table = named("A2")
        s, t = Change(table, (0,)), Change(table, (1,))
        one = Blend(table, ((s, 2), (t, Q)))
        self.assertIs(one == Blend(table, ((t, Q), (s, Laurent(0, (2,))), (plain(table), 0))), True)
        self.assertIs(one != Blend(table, ((t, Q), (s, 2))), False)
        for other in (Blend(table, ((s, 2),)), Blend(table, ((s, 2), (t, 1))), Blend(table, ())):
            self.assertIs(one == other, False)
            self.assertIs(one != other, True)
        self.assertIs(Blend(table, ()) == Blend(named("B2"), ()), False)
        for value in odd_values() + [s, Q, one.terms]:
            self.assertIs(one == value, False)
            self.assertIs(one != value, True)

    def test_sizes_of_tables(self):
        self.assertEqual(single(top(named("B4"))).terms[0][0].length, 16)
        table = beside(beside(named("H2"), chain(())), beside(named("H2"), chain(())))
        self.assertEqual(len(single(top(table)).barred.terms), 400)
        for table, many in ((named("A5"), 720), (named("H4"), 14400), (beside(named("H3"), named("B2")), 960),
                            (beside(beside(named("G2"), chain(())), named("A3")), 576)):
            self.refuses(TooMany(many), Blend, table=table, terms=())
            self.refuses(TooMany(many), single, change=plain(table))
            self.refuses(TooMany(many), single_inverse, change=plain(table))
        for table in (RING, chain((0,)), beside(named("A2"), chain((0,)))):
            self.refuses(NotFinite(), Blend, table=table, terms=())
            self.refuses(NotFinite(), single, change=plain(table))
            self.refuses(NotFinite(), single_inverse, change=plain(table))


class ProductTest(CallCase):
    def test_of_one_change_each(self):
        for table in TABLES:
            every = all_under(top(table))
            rng = chance(152)
            for change in every:
                found = self.call(single, change=change)
                self.assertEqual(found.terms, ((change, ONE),))
            for _ in range(40):
                u, w = rng.choice(every), rng.choice(every)
                if (u * w).length == u.length + w.length:
                    self.assertEqual(single(u) * single(w), single(u * w))
            for s in range(table.size):
                one = single(Change(table, (s,)))
                self.assertEqual(one * one, Q * single(plain(table)) + (Q - 1) * one)

    def test_with_one_button(self):
        for table in TABLES:
            for w in all_under(top(table)):
                for s in range(table.size):
                    press = Change(table, (s,))
                    led = single(press) * single(w)
                    behind = single(w) * single(press)
                    if s in w.fronts:
                        self.assertEqual(led, Q * single(press * w) + (Q - 1) * single(w))
                    else:
                        self.assertEqual(led, single(press * w))
                    if s in w.backs:
                        self.assertEqual(behind, Q * single(w * press) + (Q - 1) * single(w))
                    else:
                        self.assertEqual(behind, single(w * press))

    def test_brackets_and_sums(self):
        for table in TABLES:
            rng = chance(153)
            unit = single(plain(table))
            for _ in range(8):
                x, y, z = (random_blend(rng, table) for _ in range(3))
                k, m = random_laurent(rng), rng.randrange(-2, 3)
                self.assertEqual((x * y) * z, x * (y * z))
                self.assertEqual(x * (y + z), x * y + x * z)
                self.assertEqual((y - z) * x, y * x - z * x)
                self.assertEqual((k * x) * y, k * (x * y))
                self.assertEqual(x * (y * k), (x * y) * k)
                self.assertEqual((m * x, x * m), (Laurent(0, (m,)) * x, x * Laurent(0, (m,))))
                self.assertEqual((unit * x, x * unit), (x, x))
                self.assertEqual(-x, x * -1)
                self.assertEqual(x - x, Blend(table, ()))
                self.assertEqual(0 * x, Blend(table, ()))
                for change in all_under(top(table))[:6]:
                    self.assertEqual((x + y).at(change), x.at(change) + y.at(change))
                    self.assertEqual((x - y).at(change), x.at(change) - y.at(change))
                    self.assertEqual((k * x).at(change), k * x.at(change))
                self.assertEqual({type(one) for one in (x + y, x - y, x * y, k * x, x * m, -x)}, {Blend})

    def test_with_1_for_q(self):
        for table in TABLES:
            rng = chance(154)
            for _ in range(6):
                x, y = random_blend(rng, table), random_blend(rng, table)
                expected = {}
                for (u, a), (w, b) in itertools.product(x.terms, y.terms):
                    word = oracle.first_word(table.ties, u.word + w.word)
                    expected[word] = expected.get(word, 0) + a.total * b.total
                self.assertEqual(value_at_1(x * y), {word: number for word, number in expected.items() if number})

    def test_inverses(self):
        for table in TABLES:
            unit = single(plain(table))
            for change in all_under(top(table)):
                found = self.call(single_inverse, change=change)
                self.assertEqual(found * single(change), unit)
                self.assertEqual(single(change) * found, unit)
            for s in range(table.size):
                press = Change(table, (s,))
                self.assertEqual(single_inverse(press), letter(-1) * single(press) + (letter(-1) - 1) * unit)

    def test_backward(self):
        for table in TABLES:
            rng = chance(155)
            for _ in range(6):
                x, y = random_blend(rng, table), random_blend(rng, table)
                self.assertEqual((x * y).backward, y.backward * x.backward)
                self.assertEqual(x.backward.backward, x)
                self.assertEqual(dict((change.inverse().word, laurent.text) for change, laurent in x.terms),
                                 dict((change.word, laurent.text) for change, laurent in x.backward.terms))

    def test_barred(self):
        for table in TABLES:
            rng = chance(156)
            for change in all_under(top(table)):
                self.assertEqual(single(change).barred, single_inverse(change.inverse()))
            for _ in range(6):
                x, y, k = random_blend(rng, table), random_blend(rng, table), random_laurent(rng)
                self.assertEqual((x * y).barred, x.barred * y.barred)
                self.assertEqual((x + y).barred, x.barred + y.barred)
                self.assertEqual((k * x).barred, k.barred * x.barred)
                self.assertEqual(x.barred.barred, x)
        self.assertEqual(Blend(named("A2"), ()).barred, Blend(named("A2"), ()))
        self.assertEqual(Blend(named("A2"), ()) * single(top(named("A2"))), Blend(named("A2"), ()))

    def test_of_larger_tables(self):
        for name in ("A4", "D4", "H3"):
            z = top(named(name))
            self.assertEqual(single(z).barred.barred, single(z))
            self.assertEqual(single(z) * single_inverse(z), single(plain(named(name))))

    def test_nothing_is_changed(self):
        table = named("A2")
        x, y = single(Change(table, (0,))), single(Change(table, (0, 1)))
        before = (x.terms, y.terms)
        for _ in (x + y, x - y, x * y, y * x, -x, x * Q, x.barred, y.backward):
            self.assertEqual((x.terms, y.terms), before)


class WrongTest(CallCase):
    def test_wrong_makings(self):
        table = named("A2")
        s = Change(table, (0,))
        for value in odd_values() + [s]:
            self.refuses(NotATable(value), Blend, table=value, terms=value)
        for value in odd_values(but=(lambda v: type(v) is tuple,)) + [[(s, 1)], single(s)]:
            self.refuses(InvalidTerms(None), Blend, table=table, terms=value)
            self.refuses(InvalidTerms(None), Blend, table=RING, terms=value)
        for value in odd_values() + [s, (s,), (s, 1, 1), [s, 1], (plain(RING), 1), (table, 1), (1, s)]:
            for ahead in ((), ((s, 1),)):
                self.refuses(InvalidTerms(len(ahead)), Blend, table=table, terms=ahead + (value, "x"))
        for value in odd_values(but=(lambda v: type(v) is int,)) + [single(s)]:
            self.refuses(InvalidTerms(1), Blend, table=table, terms=((s, 1), (plain(table), value)))
        self.refuses(InvalidTerms(2), Blend, table=table, terms=((s, 1), (plain(table), 0), (Change(table, (1, 1, 0)), 2)))
        self.refuses(InvalidTerms(1), Blend, table=table, terms=((s, 0), (s, 0), "x"))
        self.refuses(InvalidTerms(0), Blend, table=RING, terms=((s, 1),))
        self.refuses(NotFinite(), Blend, table=RING, terms=((plain(RING), 1),))

    def test_wrong_changes(self):
        table = named("A2")
        for value in odd_values() + [table]:
            self.refuses(NotAChange(value), single, change=value)
            self.refuses(NotAChange(value), single_inverse, change=value)
            self.refuses(NotAChange(value), single(plain(table)).at, change=value)
        self.refuses(OtherTable(), single(plain(table)).at, change=plain(RING))
        self.refuses(OtherTable(), single(plain(table)).at, change=plain(named("B2")))

    def test_unlike_tables(self):
        x, y = single(plain(named("A2"))), single(plain(named("B2")))
        for sign in (lambda: x + y, lambda: x - y, lambda: x * y):
            with self.assertRaises(OtherTable):
                sign()


if __name__ == "__main__":
    unittest.main()
