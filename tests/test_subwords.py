"""Points 36, 37 and the module subwords."""

import itertools
import unittest

import oracle
from oracle import CallCase, chance, odd_values, random_ties, random_word
from wallwalks.changes import Change, least_words, plain
from wallwalks.ends import how_many, top
from wallwalks.errors import InvalidWord, NotAChange, NotATable, OtherTable, TooMany
from wallwalks.fronts import begins
from wallwalks.subwords import all_under, between, covered, is_under, places, shortening, sticky, sticky_product
from wallwalks.tables import Table, chain, named

RING = named("~A2")
PAIR = chain((0,))
BOTH = (is_under, places, shortening, sticky_product, between)


def some_words(seed, many, longest=7, most=4):
    rng = chance(seed)
    for _ in range(many):
        kinds = rng.choice((oracle.TIES, (2, 3), (2, 3, 4, 5), (0, 3)))
        table = Table(random_ties(rng, rng.randrange(1, most + 1), kinds))
        yield rng, table, random_word(rng, table.size, rng.randrange(longest + 1))


def left_of(word):
    """All words that are left of a word when some or none of its buttons are left out."""
    for keep in itertools.product((False, True), repeat=len(word)):
        yield tuple(s for s, held in zip(word, keep) if held)


def under_by_words(table, word):
    """The first words of the changes with a least word that is left of a least word."""
    return {oracle.first_word(table.ties, part) for part in left_of(word)
            if len(oracle.first_word(table.ties, part)) == len(part)}


class UnderTest(CallCase):
    def test_all_under(self):
        for _, table, word in some_words(121, 70):
            change = Change(table, word)
            expected = under_by_words(table, change.word)
            found = self.call(all_under, change=change)
            self.assertEqual([one.word for one in found], sorted(expected, key=lambda one: (len(one), one)))
            for other in least_words(change)[:3]:
                self.assertEqual(under_by_words(table, other), expected)
            self.assertTrue(all(one.table == table for one in found))

    def test_is_under_and_places(self):
        under = 0
        for rng, table, word in some_words(122, 200):
            change, other = Change(table, word), Change(table, random_word(rng, table.size, 7))
            expected = change.word in under_by_words(table, other.word)
            under += expected
            self.assertIs(self.call(is_under, change=change, other=other), expected)
            found = self.call(places, change=change, other=other)
            if expected:
                self.assertEqual(list(found), sorted(set(found)))
                self.assertIn(tuple(other.word[at] for at in found), least_words(change))
            else:
                self.assertIsNone(found)
            self.assertIs(is_under(change, change), True)
            self.assertEqual(places(change, change), tuple(range(change.length)))
            self.assertEqual(places(plain(table), change), ())
        self.assertGreater(under, 50)

    def test_what_begins_is_under(self):
        for table in (named("A3"), named("B3")):
            for change in all_under(top(table))[::3]:
                for other in all_under(top(table))[::2]:
                    if begins(change, other):
                        self.assertIs(is_under(change, other), True)

    def test_shortenings(self):
        for rng, table, word in some_words(123, 150):
            change, other = Change(table, word), Change(table, random_word(rng, table.size, 7))
            found = self.call(shortening, change=change, other=other)
            self.assertEqual(found[0], (change, other))
            self.assertEqual(len(found), other.length + 1)
            self.assertFalse(found[-1][1])
            self.assertIs(not found[-1][0], is_under(change, other))
            for (u, w), (shorter, rest) in zip(found, found[1:]):
                press = Change(table, (w.word[-1],))
                self.assertEqual(rest, w * press)
                self.assertEqual(shorter, min(u, u * press, key=lambda one: one.length))
                self.assertIs(is_under(u, w), is_under(shorter, rest))

    def test_long_changes(self):
        long_one = Change(RING, (0, 1, 2) * 20) ** 4
        self.assertIs(is_under(Change(RING, (1, 2) * 30), long_one), True)
        self.assertIs(is_under(long_one, long_one * long_one), True)
        self.assertIs(is_under(long_one * long_one, long_one), False)
        self.assertEqual(len(shortening(plain(RING), long_one)), 241)
        self.assertEqual(len(places(long_one, long_one * long_one)), 240)
        self.assertEqual(sticky_product(long_one, long_one).length, 480)

    def test_between(self):
        for rng, table, word in some_words(124, 120):
            other = Change(table, word)
            change = rng.choice(all_under(other)) if rng.randrange(4) else Change(table, random_word(rng, table.size, 3))
            expected = tuple(one for one in all_under(other) if is_under(change, one))
            found = self.call(between, change=change, other=other)
            self.assertEqual(found, expected)
            self.assertIs(found == (), not is_under(change, other))
            if found and change != other:
                self.assertEqual(sum(one.parity for one in found) * 2, len(found))
                if other.length - change.length == 2:
                    self.assertEqual(len(found), 4)
        self.assertEqual(between(plain(RING), plain(RING)), (plain(RING),))

    def test_covered(self):
        for _, table, word in some_words(125, 100):
            change = Change(table, word)
            expected = tuple(one for one in all_under(change) if one.length == change.length - 1)
            self.assertEqual(self.call(covered, change=change), expected)
        self.assertEqual(covered(plain(RING)), ())
        long_one = Change(RING, (0, 1, 2) * 20) ** 2
        self.assertEqual({one.word for one in covered(long_one)}, set(covered_words(long_one)))

    def test_more_than_a_thousand(self):
        fine = Change(PAIR, (0, 1) * 30) ** 8 * Change(PAIR, (0, 1) * 10)
        self.assertEqual((fine.length, len(all_under(fine))), (500, 1000))
        self.assertEqual(len(between(Change(PAIR, (0,)), fine)), 998)
        more = fine * Change(PAIR, (0,))
        self.refuses(TooMany(1000), all_under, change=more)
        self.refuses(TooMany(1000), between, change=plain(PAIR), other=more)
        self.refuses(TooMany(1000), between, change=more * Change(PAIR, (1,)), other=more)
        self.refuses(TooMany(1000), all_under, change=top(named("A6")))
        self.assertEqual(len(covered(more)), 2)
        for text, word, many in (
            ("table: 1 5 3 3 5; 5 1 5 3 2; 3 5 1 2 5; 3 3 2 1 4; 5 2 5 4 1", (2, 0, 3, 0, 2, 4, 3, 0, 2, 1, 2, 3), 1000),
            ("table: 1 4 3 3 2; 4 1 2 5 5; 3 2 1 5 2; 3 5 5 1 3; 2 5 2 3 1", (3, 1, 2, 4, 1, 3, 1, 3, 0, 1, 2, 3), 1002),
        ):
            change = Change(Table.read(text), word)
            self.assertEqual(len(under_by_words(change.table, change.word)), many)
            if many == 1000:
                self.assertEqual(len(all_under(change)), 1000)
            else:
                self.refuses(TooMany(1000), all_under, change=change)
        self.assertEqual(len(all_under(top(named("A5")))), 720)
        self.assertEqual(len(all_under(top(named("H3")))), how_many(named("H3")))


def covered_words(change):
    """The first words of what is left of a long change without one button, if it is shorter by one alone."""
    word = change.word
    for at in range(len(word)):
        left = plain(change.table)
        for start in range(0, len(word), 50):
            piece = tuple(s for place, s in enumerate(word) if place != at and start <= place < start + 50)
            left = left * Change(change.table, piece)
        if left.length == len(word) - 1:
            yield left.word


class StickyTest(CallCase):
    def test_sticky_changes(self):
        for _, table, word in some_words(126, 150, 8):
            expected = plain(table)
            for s in word:
                expected = max(expected, expected * Change(table, (s,)), key=lambda one: one.length)
            found = self.call(sticky, table=table, word=word)
            self.assertEqual(found, expected)
            if len(word) < 8:
                made = {oracle.first_word(table.ties, part) for part in left_of(word)}
                self.assertEqual({one.word for one in all_under(found)}, made)
        self.assertEqual(sticky(PAIR, (0, 0, 1, 1) * 15).length, 30)
        self.assertEqual(sticky(RING, ()), plain(RING))

    def test_sticky_products(self):
        for rng, table, word in some_words(127, 80, 5):
            change, other = Change(table, word), Change(table, random_word(rng, table.size, 4))
            found = self.call(sticky_product, change=change, other=other)
            for left in least_words(change)[:3]:
                for right in least_words(other)[:3]:
                    self.assertEqual(sticky(table, left + right), found)
            products = [u * w for u in all_under(change) for w in all_under(other)]
            self.assertIn(found, products)
            self.assertTrue(all(is_under(one, found) for one in products))


class WrongTest(CallCase):
    def test_wrong_changes_and_tables(self):
        change, other = Change(RING, (0,)), Change(chain((3,)), (0,))
        for value in odd_values() + [RING]:
            for function in BOTH:
                self.refuses(NotAChange(value), function, change=value, other=0)
                self.refuses(NotAChange(value), function, change=change, other=value)
            for function in (all_under, covered):
                self.refuses(NotAChange(value), function, change=value)
        for function in BOTH:
            self.refuses(OtherTable(), function, change=change, other=other)
        self.refuses(OtherTable(), between, change=change, other=top(named("A6")))

    def test_wrong_words(self):
        for value in odd_values() + [plain(RING)]:
            self.refuses(NotATable(value), sticky, table=value, word=0)
        for value in odd_values(but=(lambda v: type(v) is tuple,)):
            self.refuses(InvalidWord(None), sticky, table=RING, word=value)
        for word, at in (((0, 3), 1), ((True,), 0), ((0,) * 61, 60), ((0,) * 59 + ("x",) * 5, 59), ((0, 0, -1), 2)):
            self.refuses(InvalidWord(at), sticky, table=RING, word=word)


if __name__ == "__main__":
    unittest.main()
