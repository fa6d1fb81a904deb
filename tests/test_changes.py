"""Points 10 to 14, as far as the module changes speaks of them, and that module."""

import unittest

import oracle
from oracle import CallCase, chance, odd_values, random_ties, random_word
from wallwalks.changes import Change, least_words, level, many_words, parting, plain
from wallwalks.errors import (
    InvalidButton, InvalidNumber, InvalidText, InvalidVector, InvalidWord, NotAChange, NotATable, OtherTable, TooMany,
)
from wallwalks.goldens import Golden
from wallwalks.tables import Table, beside, chain, named

FULL = chain((3, 4))
PAIR = chain((0,))


def some_words(seed, many, longest=8, sizes=(1, 2, 3, 4, 5, 6)):
    """Tables and words by chance."""
    rng = chance(seed)
    for _ in range(many):
        ties = random_ties(rng, rng.choice(sizes), rng.choice((oracle.TIES, (2, 3), (2, 3, 4, 5), (0, 3))))
        yield rng, Table(ties), random_word(rng, len(ties), rng.randrange(longest + 1))


def is_word_of_full(value):
    return type(value) is tuple and all(type(s) is int and 0 <= s < 3 for s in value)


class WordTest(CallCase):
    def test_first_words_as_steps_alone_tell_them(self):
        for _, table, word in some_words(11, 400):
            made = self.call(Change, table=table, word=word)
            self.assertEqual(made.word, oracle.first_word(table.ties, word))
            self.assertEqual(made.length, len(made.word))
            self.assertEqual(made.parity, len(word) % 2)
            self.assertEqual(made.table, table)

    def test_same_change_exactly_if_steps_lead_there(self):
        for rng, table, word in some_words(12, 300, 7, (2, 3)):
            other = random_word(rng, table.size, len(word))
            same = oracle.first_word(table.ties, word) == oracle.first_word(table.ties, other)
            self.assertIs(Change(table, word) == Change(table, other), same)
            self.assertIs(Change(table, word) != Change(table, other), not same)

    def test_steps_do_not_change_it(self):
        for rng, table, word in some_words(13, 200, 20):
            made = Change(table, word)
            for other in oracle.swapped_words(table.ties, word):
                self.assertEqual(Change(table, other), made)
            at, s = rng.randrange(len(word) + 1), rng.randrange(table.size)
            self.assertEqual(Change(table, word[:at] + (s, s) + word[at:]), made)

    def test_front_and_back_buttons_shorten(self):
        for _, table, word in some_words(14, 150):
            made = Change(table, word)
            singles = [Change(table, (s,)) for s in range(table.size)]
            self.assertEqual(made.fronts, tuple(s for s in range(table.size) if (singles[s] * made).length < made.length))
            self.assertEqual(made.backs, tuple(s for s in range(table.size) if (made * singles[s]).length < made.length))
            for s in range(table.size):
                self.assertEqual(abs((made * singles[s]).length - made.length), 1)

    def test_longest_words(self):
        word = (0, 1) * 30
        self.assertEqual(Change(PAIR, word).word, word)
        self.assertEqual(Change(FULL, (0,) * 60), plain(FULL))

    def test_wrong_words(self):
        for value in odd_values(but=(lambda v: type(v) is tuple,)) + [[0, 1], "01"]:
            self.refuses(InvalidWord(None), Change, table=FULL, word=value)
        for value in odd_values(but=(lambda v: type(v) is int and 0 <= v < 3,)) + [3]:
            for at in (0, 1, 59):
                self.refuses(InvalidWord(at), Change, table=FULL, word=(1,) * at + (value,) + (3,) * (59 - at))
        self.refuses(InvalidWord(60), Change, table=FULL, word=(1,) * 61)
        self.refuses(InvalidWord(60), Change, table=FULL, word=(1,) * 60 + ("x",) * 9)
        self.refuses(InvalidWord(59), Change, table=FULL, word=(1,) * 59 + ("x",) * 9)
        for value in odd_values():
            self.refuses(NotATable(value), Change, table=value, word="x")
            self.refuses(NotATable(value), plain, table=value)


class TurningTest(CallCase):
    def test_images(self):
        for _, table, word in some_words(15, 150, 12):
            found = Change(table, word).images
            self.assertEqual(tuple(oracle.pairs(image) for image in found), oracle.images(table.ties, word))
            self.assertIs(type(found[0][0]), Golden)
            downs = tuple(s for s, image in enumerate(found) if oracle.is_down(oracle.pairs(image)))
            self.assertEqual(Change(table, word).backs, downs)

    def test_turned_vectors(self):
        for rng, table, word in some_words(16, 150, 12):
            vector = tuple(rng.choice((rng.randrange(-9, 9), Golden(rng.randrange(-9, 9), rng.randrange(-9, 9))))
                           for _ in range(table.size))
            plainly = tuple((x.whole, x.gold) if isinstance(x, Golden) else (x, 0) for x in vector)
            found = self.call(Change(table, word).turned, vector=vector)
            self.assertEqual(oracle.pairs(found), oracle.turn_by(table.ties, plainly, word))
            self.assertTrue(all(type(x) is Golden for x in found))
            for s in range(table.size):
                there = self.call(level, table=table, vector=vector, button=s)
                self.assertEqual((there.whole, there.gold), oracle.level(table.ties, plainly, s))
                self.assertIs(type(there), Golden)

    def test_wrong_vectors(self):
        change = Change(FULL, (0,))
        for value in odd_values() + [(1, 2), (1, 2, 3, 4), [1, 2, 3]]:
            self.refuses(InvalidVector(None), change.turned, vector=value)
            self.refuses(InvalidVector(None), level, table=FULL, vector=value, button="x")
        for value in odd_values(but=(lambda v: type(v) is int,)):
            for vector, at in (((value, 1, "x"), 0), ((1, value, "x"), 1), ((Golden(1), 0, value), 2)):
                self.refuses(InvalidVector(at), change.turned, vector=vector)
                self.refuses(InvalidVector(at), level, table=FULL, vector=vector, button="x")
        for value in odd_values(but=(lambda v: type(v) is int and 0 <= v < 3,)) + [3]:
            self.refuses(InvalidButton(value), level, table=FULL, vector=(1, 2, 3), button=value)
        for value in odd_values():
            self.refuses(NotATable(value), level, table=value, vector=value, button=value)

    def test_parting(self):
        for rng, table, word in some_words(17, 300, 6, (1, 2, 3, 4)):
            other = random_word(rng, table.size, rng.randrange(7))
            both = zip(oracle.images(table.ties, word), oracle.images(table.ties, other))
            expected = next((s for s, (x, y) in enumerate(both) if x != y), None)
            first, second = Change(table, word), Change(table, other)
            self.assertEqual(self.call(parting, change=first, other=second), expected)
            self.assertIs(expected is None, first == second)

    def test_wrong_partings(self):
        change = Change(FULL, (0,))
        for value in odd_values() + [FULL]:
            self.refuses(NotAChange(value), parting, change=value, other=change)
            self.refuses(NotAChange(value), parting, change=value, other=[])
            self.refuses(NotAChange(value), parting, change=change, other=value)
        self.refuses(OtherTable(), parting, change=change, other=plain(PAIR))


class SignTest(CallCase):
    def test_products(self):
        for rng, table, word in some_words(18, 200, 8):
            other = random_word(rng, table.size, rng.randrange(9))
            u, w = Change(table, word), Change(table, other)
            self.assertEqual(u * w, Change(table, word + other))
            self.assertEqual((u * w).word, oracle.first_word(table.ties, u.word + w.word))
            self.assertEqual((u * w).parity, (u.parity + w.parity) % 2)
            self.assertEqual(u.word, oracle.first_word(table.ties, word))

    def test_inverses(self):
        for rng, table, word in some_words(19, 200, 12):
            u = Change(table, word)
            back = self.call(u.inverse)
            self.assertEqual(back, Change(table, word[::-1]))
            self.assertEqual((u * back, back * u), (plain(table), plain(table)))
            self.assertEqual(back.length, u.length)
            w = Change(table, random_word(rng, table.size, 6))
            self.assertEqual((u * w).inverse(), w.inverse() * u.inverse())

    def test_powers(self):
        for _, table, word in some_words(20, 12, 6):
            u = Change(table, word)
            up, down = plain(table), plain(table)
            for k in range(65):
                self.assertEqual(self.call(u.power, exponent=k), up)
                self.assertEqual(self.call(u.power, exponent=-k), down)
                self.assertEqual((u ** k, u ** -k), (up, down))
                up, down = up * u, down * u.inverse()

    def test_long_powers(self):
        table = chain((3, 3, 5, 4, 0))
        u = Change(table, (0, 1, 2, 3, 4, 5) * 10)
        long = u ** 64
        self.assertEqual(long.length, 3840)
        self.assertEqual((long * u.inverse() ** 64).word, ())
        self.assertEqual(long.inverse().word[::-1].count(0), 640)
        self.assertEqual(long.backs, (5,))
        self.assertEqual(long.turned((0,) * 6), (Golden(0),) * 6)
        self.assertEqual(long.turned(u.images[0]), (long * u).images[0])
        self.assertEqual(u.inverse().turned(long.images[5]), (u ** 63).images[5])
        self.assertEqual(Change(table, long.word[:60]).word, long.word[:60])
        self.assertEqual((u.inverse() * long, long * u.inverse()), (u ** 63, u ** 63))
        self.refuses(InvalidWord(60), Change, table=table, word=long.word)

    def test_wrong_powers(self):
        u = Change(FULL, (0, 1))
        for value in odd_values(but=(lambda v: type(v) is int and -64 <= v <= 64,)) + [65, -65, Golden(1)]:
            self.refuses(InvalidNumber(value), u.power, exponent=value)
            with self.assertRaises(InvalidNumber) as caught:
                u ** value
            self.assertIs(caught.exception.given, value)

    def test_unlike_tables(self):
        with self.assertRaises(OtherTable):
            Change(FULL, (0,)) * Change(PAIR, (0,))
        for value in (3, "x", FULL, None):
            with self.assertRaises(TypeError):
                Change(FULL, (0,)) * value
        same = Change(FULL, (0,)) * Change(Table(FULL.ties), (0, 1))
        self.assertEqual(same.word, (1,))

    def test_equal_and_true(self):
        u = Change(FULL, (1,))
        for value in odd_values() + [(1,), FULL]:
            self.assertIs(u == value, False)
            self.assertIs(u != value, True)
        self.assertIs(u == Change(PAIR, (1,)), False)
        self.assertIs(u == Change(Table(FULL.ties), (1,)), True)
        self.assertIs(bool(u), True)
        self.assertIs(bool(Change(FULL, (1, 1))), False)
        self.assertEqual(self.call(plain, table=FULL), Change(FULL, ()))


class TextTest(CallCase):
    def test_texts(self):
        self.assertEqual(Change(FULL, ()).text, "-")
        self.assertEqual(Change(FULL, (2, 0, 1)).text, "0 2 1")
        for _, table, word in some_words(21, 100, 30):
            text = " ".join(map(str, word)) if word else "-"
            made = Change(table, word)
            self.assertEqual(self.call(Change.read, table=table, text=text), made)
            self.assertEqual(Change.read(table, made.text).word, made.word)
        self.assertEqual(Change.read(PAIR, " ".join("01" * 30)).length, 60)
        self.assertEqual(made.read(PAIR, "0"), Change(PAIR, (0,)))

    def test_wrong_texts(self):
        wrong = ("", " ", "3", "0 3", "00", "01", "0  1", " 0", "0 ", "0,1", "--", "- 0", "0 -", "-1", "+1", "0\t1", "1 x")
        for text in wrong + (" ".join("01" * 30) + " 0",):
            self.refuses(InvalidText(text), Change.read, table=FULL, text=text)
        for value in odd_values(but=(lambda v: type(v) is str and v == "0",)):
            self.refuses(InvalidText(value), Change.read, table=FULL, text=value)
        for value in odd_values():
            self.refuses(NotATable(value), Change.read, table=value, text="x")


class LeastWordTest(CallCase):
    def test_all_least_words(self):
        for _, table, word in some_words(22, 200):
            expected = oracle.least_words(table.ties, word)
            change = Change(table, word)
            self.assertEqual(self.call(many_words, change=change), len(expected))
            self.assertEqual(self.call(least_words, change=change), expected)

    def test_known_numbers(self):
        a4 = Change(named("A4"), (0, 1, 0, 2, 1, 0, 3, 2, 1, 0))
        self.assertEqual((many_words(a4), len(least_words(a4))), (768, 768))
        self.assertEqual(many_words(Change(beside(chain((2, 2)), chain((2, 2))), (0, 1, 2, 3, 4, 5))), 720)

    def test_too_many(self):
        pair = Change(PAIR, (0, 1) * 30)
        longest = pair ** 16 * Change(PAIR, (0, 1) * 19 + (0,))
        self.assertEqual(longest.length, 999)
        self.assertEqual((many_words(longest), least_words(longest)), (1, (longest.word,)))
        too_long = longest * Change(PAIR, (1,))
        self.refuses(TooMany(1000), many_words, change=too_long)
        self.refuses(TooMany(1000), least_words, change=too_long)
        just_as_many = Change(named("H4"), (2, 1, 0, 3, 2, 1, 0, 3, 2, 1, 0, 3, 2, 1, 3))
        self.assertEqual((many_words(just_as_many), len(least_words(just_as_many))), (1000, 1000))
        self.assertEqual(least_words(just_as_many), oracle.least_words(named("H4").ties, just_as_many.word))
        both = Change(beside(named("A4"), named("A1")), (0, 1, 0, 2, 1, 0, 3, 2, 1, 0, 4))
        self.assertEqual(many_words(both), 768 * 11)
        self.refuses(TooMany(1000), least_words, change=both)

    def test_wrong_changes(self):
        for value in odd_values() + [FULL]:
            self.refuses(NotAChange(value), many_words, change=value)
            self.refuses(NotAChange(value), least_words, change=value)


if __name__ == "__main__":
    unittest.main()
