"""Points 40, 41, and the module pairs."""

import unittest

import oracle
from oracle import CallCase, chance, odd_values, random_ties, random_word
from wallwalks.changes import Change, plain
from wallwalks.ends import top
from wallwalks.errors import NotAChange, NotFinite, OtherTable, TooMany
from wallwalks.laurents import Laurent, letter
from wallwalks.pairs import balanced, gap, link, weave
from wallwalks.subwords import all_under, between, is_under
from wallwalks.sums import Blend, single
from wallwalks.tables import Table, chain, named

RING = named("~A2")
PAIR = chain((0,))
A3 = named("A3")
Q = letter(1)
ONE, NOUGHT = Laurent(0, (1,)), Laurent(0, ())
BOTH = (gap, weave, link)
FINITE = tuple(named(name) for name in ("A1", "A2", "A3", "B3", "H2", "G2")) + (chain((2, 4)),)


def sign_of(change):
    return -1 if change.parity else 1


def further(change, other):
    return other.length - change.length


def some_changes(seed, many, longest=6, most=4):
    """Tables by chance, each with a change that has not many changes under it."""
    rng = chance(seed)
    for _ in range(many):
        kinds = rng.choice((oracle.TIES, (2, 3), (2, 3, 4, 5), (0, 3), (3,)))
        table = Table(random_ties(rng, rng.randrange(1, most + 1), kinds))
        change = Change(table, random_word(rng, table.size, rng.randrange(longest + 1)))
        if len(all_under(change)) <= 60:
            yield rng, table, change


def slow_gap(u, w, rng, known):
    """By the definition, with any front button."""
    key = (u.word, w.word)
    if key not in known:
        if not is_under(u, w):
            known[key] = NOUGHT
        elif u == w:
            known[key] = ONE
        else:
            press = Change(w.table, (rng.choice(w.fronts),))
            if press.word[0] in u.fronts:
                known[key] = slow_gap(press * u, press * w, rng, known)
            else:
                known[key] = (Q - 1) * slow_gap(u, press * w, rng, known) + Q * slow_gap(press * u, press * w, rng, known)
    return known[key]


class GapTest(CallCase):
    def test_by_the_definition(self):
        not_under = 0
        for rng, table, other in some_changes(161, 120):
            known = {}
            for change in all_under(other) + (Change(table, (0, table.size - 1, 0)),):
                found = self.call(gap, change=change, other=other)
                self.assertIs(type(found), Laurent)
                self.assertEqual(found, slow_gap(change, other, rng, known))
                d = further(change, other)
                if not is_under(change, other):
                    not_under += 1
                    self.assertEqual(found, NOUGHT)
                    continue
                self.assertEqual((found.lowest, found.highest, found.coefficient(d)), (0, d, 1))
                self.assertEqual(found.coefficient(0), -1 if d % 2 else 1)
                self.assertEqual(letter(d) * found.barred, -found if d % 2 else found)
                if d in (1, 2):
                    self.assertEqual(found, (Q - 1) ** d)
        self.assertGreater(not_under, 10)

    def test_the_sum_of_products(self):
        for _, table, other in some_changes(162, 80):
            for change in all_under(other)[::3]:
                total = NOUGHT
                for a in between(change, other):
                    total = total + sign_of(a) * gap(change, a) * gap(a, other)
                self.assertEqual(total, Laurent(0, (sign_of(change),)) if change == other else NOUGHT)

    def test_bars_of_single_blends(self):
        for table in FINITE:
            for w in all_under(top(table))[::5]:
                terms = tuple((u, sign_of(u) * sign_of(w) * letter(-w.length) * gap(u, w)) for u in all_under(top(table)))
                self.assertEqual(single(w).barred, Blend(table, terms))


class WeaveTest(CallCase):
    def test_what_weaves_are(self):
        """The conditions of which the document says that there is just one way to keep them."""
        unlike_1 = 0
        for rng, table, other in some_changes(163, 250, 8):
            lot = all_under(other)
            weaves = {change.word: self.call(weave, change=change, other=other) for change in lot}
            for change in lot:
                found = weaves[change.word]
                d = further(change, other)
                self.assertIs(type(found), Laurent)
                self.assertEqual(found.coefficient(0), 1)
                self.assertEqual(found.lowest, 0)
                if change == other:
                    self.assertEqual(found, ONE)
                else:
                    self.assertLess(2 * found.highest, d)
                if d <= 2 or table.size <= 2:
                    self.assertEqual(found, ONE)
                unlike_1 += found != ONE
                total = NOUGHT
                for a in between(change, other):
                    total = total + gap(change, a) * weaves[a.word]
                self.assertEqual(letter(d) * found.barred, total)
                linked = self.call(link, change=change, other=other)
                self.assertIs(type(linked), int)
                self.assertEqual(linked, found.coefficient((d - 1) // 2) if d % 2 else 0)
        self.assertGreater(unlike_1, 20)

    def test_what_is_not_under(self):
        for rng, table, other in some_changes(164, 60):
            change = Change(table, random_word(rng, table.size, rng.randrange(9)))
            if not is_under(change, other):
                self.assertEqual(self.call(weave, change=change, other=other), NOUGHT)
                self.assertEqual(self.call(link, change=change, other=other), 0)
        self.assertEqual(weave(Change(A3, (0,)), plain(A3)).text, "0")
        self.assertEqual([link(Change(A3, word), plain(A3)) for word in ((0,), (0, 1), (0, 1, 0))], [0, 0, 0])

    def test_known_ones(self):
        found = {}
        for w in all_under(top(A3)):
            for u in all_under(w):
                if weave(u, w) != ONE:
                    self.assertEqual(weave(u, w).text, "1q0 1q1")
                    found.setdefault(w.word, []).append(u.word)
        self.assertEqual(found, {(1, 0, 2, 1): [(), (1,)], (0, 1, 2, 1, 0): [(), (0,), (2,), (0, 2)]})
        self.assertEqual(weave(plain(RING), Change(RING, (0, 1, 2, 0))).text, "1q0 1q1")

    def test_with_one_button_more(self):
        for rng, table, w in some_changes(165, 150, 8):
            if not w:
                continue
            s = rng.choice(w.fronts)
            press = Change(table, (s,))
            v = press * w
            for u in all_under(w):
                c = 1 if s in u.fronts else 0
                total = letter(1 - c) * weave(press * u, v) + letter(c) * weave(u, v)
                for z in all_under(v):
                    if s in z.fronts and link(z, v):
                        total = total - link(z, v) * letter((w.length - z.length) // 2) * weave(u, z)
                self.assertEqual(weave(u, w), total)

    def test_as_many_as_can_be_under(self):
        fine = Change(PAIR, (0, 1) * 30)
        more = fine * Change(PAIR, (0,))
        self.assertEqual((len(all_under(fine)), len(all_under(more))), (120, 122))
        self.assertEqual(weave(plain(PAIR), fine), ONE)
        self.assertEqual(gap(plain(PAIR), fine).highest, 60)
        self.assertEqual(link(Change(PAIR, (0,)), fine), 0)
        self.assertEqual(len(all_under(top(named("A4")))), 120)
        self.assertEqual(weave(plain(named("A4")), top(named("A4"))), ONE)
        many = Change(RING, (0, 1, 2) * 20)
        for function in BOTH:
            self.refuses(TooMany(120), function, change=plain(PAIR), other=more)
            self.refuses(TooMany(120), function, change=more, other=more)
            self.refuses(TooMany(120), function, change=many * many, other=many)
            self.assertIn(self.call(function, change=more, other=fine), (NOUGHT, 0))

    def test_just_so_many_under(self):
        table = Table.read("table: 1 2 4 3 4; 2 1 2 3 2; 4 2 1 4 4; 3 3 4 1 3; 4 2 4 3 1")
        change = Change(table, (0, 1, 2, 4, 0, 3, 4, 3))
        self.assertEqual(len(all_under(change)), 120)
        self.assertEqual(weave(plain(table), change).coefficient(0), 1)
        self.assertEqual(gap(plain(table), change).highest, 8)
        table = Table.read("table: 1 5 3 4 3; 5 1 4 5 3; 3 4 1 5 5; 4 5 5 1 3; 3 3 5 3 1")
        change = Change(table, (1, 3, 4, 3, 2, 1, 2, 4))
        self.assertEqual(len(all_under(change)), 122)
        for function in BOTH:
            self.refuses(TooMany(120), function, change=plain(table), other=change)


class BalancedTest(CallCase):
    def test_balanced_blends(self):
        for table in FINITE:
            for w in all_under(top(table)):
                found = self.call(balanced, change=w)
                self.assertIs(type(found), Blend)
                self.assertEqual(found.terms, tuple((u, weave(u, w)) for u in all_under(w)))
                self.assertEqual(found.barred, letter(-w.length) * found)

    def test_with_a_button(self):
        for table in FINITE:
            for w in all_under(top(table))[::3]:
                made = balanced(w)
                for s in range(table.size):
                    press = Change(table, (s,))
                    led = (single(press) + single(plain(table))) * made
                    if s in w.fronts:
                        self.assertEqual(led, (Q + 1) * made)
                        continue
                    total = balanced(press * w)
                    for z in all_under(w):
                        if s in z.fronts and link(z, w):
                            total = total + link(z, w) * letter((w.length + 1 - z.length) // 2) * balanced(z)
                    self.assertEqual(led, total)

    def test_which_are_made(self):
        self.assertEqual(len(balanced(top(named("A4"))).terms), 120)
        self.assertEqual({laurent.text for _, laurent in balanced(top(named("H3"))).terms}, {"1q0"})
        self.refuses(TooMany(120), balanced, change=top(named("D4")))
        self.refuses(TooMany(120), balanced, change=top(named("B4")))
        self.assertEqual(len(balanced(Change(named("B4"), (0, 1, 2, 3))).terms), 16)
        for name, many in (("A5", 720), ("F4", 1152), ("H4", 14400)):
            self.refuses(TooMany(many), balanced, change=plain(named(name)))
            self.refuses(TooMany(many), balanced, change=top(named(name)))
        for table in (RING, PAIR):
            self.refuses(NotFinite(), balanced, change=plain(table))
            self.refuses(NotFinite(), balanced, change=Change(table, (0, 1) * 30) ** 2)


class WrongTest(CallCase):
    def test_wrong_changes(self):
        change, other = Change(RING, (0,)), Change(chain((3,)), (0,))
        long_one = Change(RING, (0, 1, 2) * 20)
        for value in odd_values() + [RING]:
            for function in BOTH:
                self.refuses(NotAChange(value), function, change=value, other=0)
                self.refuses(NotAChange(value), function, change=change, other=value)
            self.refuses(NotAChange(value), balanced, change=value)
        for function in BOTH:
            self.refuses(OtherTable(), function, change=change, other=other)
            self.refuses(OtherTable(), function, change=other, other=long_one)


if __name__ == "__main__":
    unittest.main()
