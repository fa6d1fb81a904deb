"""Points 42 to 44, 10 for the form of swaps, and the module positives."""

import itertools
import unittest

import oracle
from oracle import CallCase, chance, odd_values, random_ties, random_word
from wallwalks.changes import Change, plain
from wallwalks.ends import top
from wallwalks.errors import InvalidNumber, InvalidWord, NotAChange, NotAPositive, NotATable, OtherTable, TooMany
from wallwalks.fronts import begins, common_end, least_continuation
from wallwalks.positives import (
    Positive, grains, is_simple, led_down, lifted, shared_back, shared_continuation, shared_front, swaps, without_back,
    without_front,
)
from wallwalks.steps import is_step, stepped
from wallwalks.tables import Table, beside, chain, named

RING = named("~A2")
PAIR = chain((0,))
A2 = named("A2")
BOTH = (without_front, without_back, shared_front, shared_back)
TABLES = tuple(named(name) for name in ("A1", "A2", "B2", "G2", "A3", "B3", "~A2", "~C2", "H3")) + (
    PAIR, chain((2,)), chain((3, 0)), chain((2, 3)), chain((5, 4)), Table(oracle.rows_of(3, {(0, 1): 3, (1, 2): 3, (0, 2): 4})),
)


def all_words(ties, word):
    """All words to which swaps alone lead."""
    lot, edge = {word}, [word]
    while edge:
        for other in oracle.swapped_words(ties, edge.pop()):
            if other not in lot:
                lot.add(other)
                edge.append(other)
    return lot


def some_positives(seed, many, longest=9):
    rng = chance(seed)
    for _ in range(many):
        table = rng.choice(TABLES)
        if rng.randrange(3) == 0:
            table = Table(random_ties(rng, rng.randrange(1, 5), rng.choice((oracle.TIES, (2, 3), (3, 4)))))
        yield rng, table, random_word(rng, table.size, rng.randrange(longest + 1))


def firsts_of_fronts(table, word):
    """The first words of all fronts of a word's positive."""
    return {min(all_words(table.ties, one[:at])) for one in all_words(table.ties, word) for at in range(len(word) + 1)}


def firsts_of_backs(table, word):
    return {min(all_words(table.ties, one[at:])) for one in all_words(table.ties, word) for at in range(len(word) + 1)}


def all_positives(table, most):
    """The first words of all positives with at most so many buttons."""
    found = []
    for length in range(most + 1):
        found += sorted({min(all_words(table.ties, word)) for word in itertools.product(range(table.size), repeat=length)})
    return found


class PositiveTest(CallCase):
    def test_words_and_buttons(self):
        for rng, table, word in some_positives(171, 300):
            lot = all_words(table.ties, word)
            found = self.call(Positive, table=table, word=word)
            self.assertEqual(found.word, min(lot))
            self.assertEqual(found.table, table)
            self.assertEqual(found.length, len(word))
            self.assertEqual(found.fronts, tuple(sorted({one[0] for one in lot if one})))
            self.assertEqual(found.backs, tuple(sorted({one[-1] for one in lot if one})))
            self.assertEqual(found.text, " ".join(map(str, found.word)) or "-")
            self.assertIs(bool(found), bool(word))
            self.assertEqual(Positive(table, rng.choice(sorted(lot))), found)

    def test_equal_exactly_if_swaps_lead(self):
        for table in TABLES:
            for length in range(5):
                words = list(itertools.product(range(table.size), repeat=length))
                for word in words[::3]:
                    lot = all_words(table.ties, word)
                    for other in words:
                        self.assertIs(Positive(table, word) == Positive(table, other), other in lot)
        empty = Positive(A2, ())
        self.assertIs(empty == Positive(named("B2"), ()), False)
        self.assertIs(empty != Positive(A2, (0,)), True)
        self.assertIs(Positive(A2, (0, 1, 0)) != Positive(A2, (1, 0, 1)), False)
        self.assertIs(Positive(A2, (0, 0)) == empty, False)
        for value in odd_values() + [plain(A2), (), A2]:
            self.assertIs(empty == value, False)
            self.assertIs(empty != value, True)

    def test_products(self):
        for rng, table, word in some_positives(172, 120, 5):
            x, y, z = (Positive(table, one) for one in (word, random_word(rng, table.size, 4), random_word(rng, table.size, 3)))
            found = x * y
            self.assertIs(type(found), Positive)
            self.assertEqual(found.word, min(all_words(table.ties, x.word + y.word)))
            self.assertEqual((found.fronts, found.backs), (Positive(table, found.word).fronts, Positive(table, found.word).backs))
            self.assertEqual((x * y) * z, x * (y * z))
            self.assertEqual(x * Positive(table, ()), x)
            self.assertEqual(Positive(table, ()) * x, x)
            self.assertEqual(led_down(x * y), led_down(x) * led_down(y))
            if y != z:
                self.assertNotEqual(x * y, x * z)
                self.assertNotEqual(y * x, z * x)
        with self.assertRaises(OtherTable):
            Positive(A2, (0,)) * Positive(RING, (0,))

    def test_long_ones(self):
        for table in (named("A5"), RING, PAIR, named("H4")):
            rng = chance(173)
            x, y = (Positive(table, random_word(rng, table.size, 60)) for _ in range(2))
            both = x * y * x
            self.assertEqual(both.length, 180)
            self.assertEqual(without_front(without_front(both, x), y), x)
            self.assertEqual(without_back(without_back(both, x), y), x)
            self.assertTrue(set(x.fronts) <= set(both.fronts) and set(x.backs) <= set(both.backs))
            self.assertEqual(shared_front(both, x), x)
            self.assertEqual(shared_back(both, x), x)
            self.assertEqual(led_down(both), led_down(x) * led_down(y) * led_down(x))
            self.assertIsNone(shared_continuation(both, x, 60))


class FrontTest(CallCase):
    def test_without(self):
        there = 0
        for rng, table, word in some_positives(174, 150, 7):
            x = Positive(table, word)
            for other in (random_word(rng, table.size, rng.randrange(4)), word[:len(word) // 2], word[len(word) // 2:]):
                y = Positive(table, other)
                for function, order in ((without_front, 1), (without_back, -1)):
                    expected = {(one[len(other):] if order == 1 else one[:len(one) - len(other)])
                                for one in all_words(table.ties, word)
                                if len(other) <= len(word)
                                and (one[:len(other)] if order == 1 else one[len(one) - len(other):]) in all_words(table.ties, other)}
                    found = self.call(function, positive=x, other=y)
                    if not expected:
                        self.assertIsNone(found)
                        continue
                    there += 1
                    self.assertEqual(found.word, min(expected))
                    self.assertEqual((y * found) if order == 1 else (found * y), x)
            self.assertEqual(without_front(x, x), Positive(table, ()))
            self.assertEqual(without_back(x, Positive(table, ())), x)
        self.assertGreater(there, 150)

    def test_shared_fronts_and_backs(self):
        deep = 0
        for rng, table, word in some_positives(175, 120, 6):
            other = random_word(rng, table.size, rng.randrange(6))
            if rng.randrange(2):
                word, other = other[:3] + word[:4] + other[3:], other[:3] + word[4:] + other[3:]
            x, y = Positive(table, word), Positive(table, other)
            for function, firsts in ((shared_front, firsts_of_fronts), (shared_back, firsts_of_backs)):
                shared = firsts(table, word) & firsts(table, other)
                found = self.call(function, positive=x, other=y)
                self.assertEqual(found.word, max(shared, key=len))
                self.assertTrue(shared <= firsts(table, found.word))
                self.assertEqual(function(y, x), found)
                deep += found.length > 1
        self.assertGreater(deep, 60)

    def test_shared_continuations(self):
        there = missing = 0
        for table in TABLES:
            most = 7 if table.size < 3 else 6
            every = all_positives(table, most)
            fronts = {word: firsts_of_fronts(table, word) for word in every}
            rng = chance(176)
            for _ in range(25):
                word, other = rng.choice(every[:60]), rng.choice(every[:60])
                x, y = Positive(table, word), Positive(table, other)
                shared = [one for one in every if word in fronts[one] and other in fronts[one]]
                found = self.call(shared_continuation, positive=x, other=y, most=most)
                if not shared:
                    missing += 1
                    self.assertIsNone(found)
                    continue
                there += 1
                self.assertEqual(found.word, shared[0])
                self.assertTrue(all(shared[0] in fronts[one] for one in shared))
                self.assertEqual(shared_continuation(y, x, found.length), found)
                self.assertEqual(shared_continuation(x, y, 60), found)
                if found:
                    self.assertIsNone(self.call(shared_continuation, positive=x, other=y, most=found.length - 1))
        self.assertGreater(min(there, missing), 60)

    def test_shared_continuations_of_finite_tables(self):
        for name in ("A3", "B3", "H3", "A4"):
            table = named(name)
            rng = chance(177)
            for _ in range(10):
                x, y = (Positive(table, random_word(rng, table.size, 5)) for _ in range(2))
                found = shared_continuation(x, y, 60)
                self.assertIsNotNone(found)
                left, right = without_front(found, x), without_front(found, y)
                self.assertEqual((x * left, y * right), (found, found))
                self.assertEqual(shared_back(left, right), Positive(table, ()))

    def test_of_lifts(self):
        for table in TABLES + (chain((0, 4)),):
            rng = chance(178)
            for _ in range(12):
                u, w = (Change(table, random_word(rng, table.size, rng.randrange(5))) for _ in range(2))
                expected = least_continuation(u, w, 20)
                found = shared_continuation(lifted(u), lifted(w), 20)
                self.assertEqual(found, None if expected is None else lifted(expected))

    def test_in_endless_tables(self):
        self.assertIsNone(shared_continuation(Positive(PAIR, (0,)), Positive(PAIR, (1,)), 60))
        self.assertEqual(shared_continuation(Positive(PAIR, (0, 1)), Positive(PAIR, (0, 1, 1)), 3), Positive(PAIR, (0, 1, 1)))
        self.assertIsNone(shared_continuation(Positive(RING, (0, 1)), Positive(RING, (2,)), 60))
        three = Table(oracle.rows_of(3, {(0, 1): 4, (0, 2): 5, (1, 2): 6}))
        self.assertIsNone(shared_continuation(Positive(three, (0, 1, 2)), Positive(three, (2, 1, 0)), 60))
        self.assertEqual(shared_continuation(Positive(RING, (0, 1)), Positive(RING, ()), 2), Positive(RING, (0, 1)))
        self.assertIsNone(shared_continuation(Positive(RING, (0, 1)), Positive(RING, ()), 1))
        self.assertIsNone(shared_continuation(Positive(RING, ()), Positive(RING, (0, 1)), 1))
        self.assertEqual(shared_continuation(Positive(RING, ()), Positive(RING, ()), 0), Positive(RING, ()))
        long_one = Positive(A2, (0,) * 60)
        self.assertEqual(shared_continuation(long_one, Positive(A2, (0,) * 59), 60), long_one)
        self.assertIsNone(shared_continuation(long_one, Positive(A2, (1,)), 60))
        self.assertIsNone(shared_continuation(long_one * long_one, long_one, 60))
        table = beside(PAIR, A2)
        self.assertEqual(shared_continuation(Positive(table, (0, 2)), Positive(table, (0, 3)), 4).word, (0, 2, 3, 2))


class GrainTest(CallCase):
    def test_grains(self):
        deep = 0
        for _, table, word in some_positives(179, 200):
            x = Positive(table, word)
            found = self.call(grains, positive=x)
            self.assertEqual(type(found), tuple)
            made = Positive(table, ())
            for one in found:
                self.assertIs(type(one), Change)
                self.assertTrue(one)
                made = made * lifted(one)
            self.assertEqual(made, x)
            for ahead, behind in zip(found, found[1:]):
                self.assertTrue(set(behind.fronts) <= set(ahead.backs))
            deep += len(found) > 2
            self.assertIs(self.call(is_simple, positive=x), len(found) <= 1)
        self.assertGreater(deep, 50)
        self.assertEqual(grains(Positive(RING, ())), ())

    def test_heads_are_the_greatest_simple_fronts(self):
        for _, table, word in some_positives(180, 60, 6):
            x = Positive(table, word)
            simple = [front for front in firsts_of_fronts(table, word) if oracle.least_words(table.ties, front)[0] == front
                      and len(oracle.first_word(table.ties, front)) == len(front)]
            if word:
                head = grains(x)[0]
                self.assertEqual(head.word, max(simple, key=len))
                self.assertTrue(all(begins(Change(table, front), head) for front in simple))

    def test_lifts(self):
        for _, table, word in some_positives(181, 120):
            change = Change(table, word)
            found = self.call(lifted, change=change)
            self.assertEqual(found.word, change.word)
            self.assertEqual((found.fronts, found.backs), (change.fronts, change.backs))
            self.assertEqual(self.call(led_down, positive=found), change)
            self.assertIs(is_simple(found), True)
            self.assertEqual(led_down(Positive(table, word)), change)
            self.assertIs(is_simple(Positive(table, word)), change.length == len(word))
            self.assertEqual(grains(found), (change,) if change else ())
        self.assertIs(is_simple(Positive(RING, ())), True)
        self.assertIs(is_simple(Positive(RING, (0, 0))), False)
        long_one = Change(RING, (0, 1, 2) * 20) ** 3
        self.assertEqual(lifted(long_one).length, 180)
        self.assertEqual(led_down(lifted(long_one)), long_one)
        table = named("A3")
        self.assertEqual(lifted(common_end(Change(table, (0, 1)), Change(table, (2,)))),
                         shared_continuation(Positive(table, (0, 1)), Positive(table, (2,)), 6))
        self.assertEqual(grains(lifted(top(table)) * lifted(top(table))), (top(table), top(table)))


class SwapTest(CallCase):
    def check(self, table, word, other, found):
        self.assertIs(type(found), tuple)
        self.assertLessEqual(len(found), 4000)
        for step in found:
            self.assertEqual(step[0], "swap")
            self.assertTrue(is_step(table, word, step))
            word = stepped(table, word, step)
        self.assertEqual(word, other)

    def test_swaps(self):
        unlike = 0
        for rng, table, word in some_positives(182, 200):
            lot = sorted(all_words(table.ties, word))
            for other in (rng.choice(lot), lot[0], lot[-1]):
                found = self.call(swaps, table=table, word=word, other_word=other)
                self.check(table, word, other, found)
                if word == other:
                    self.assertEqual(found, ())
            other = random_word(rng, table.size, len(word))
            if other not in lot:
                unlike += 1
                self.assertIsNone(self.call(swaps, table=table, word=word, other_word=other))
            self.assertIsNone(self.call(swaps, table=table, word=word, other_word=word + (0,)))
        self.assertGreater(unlike, 50)

    def test_twelve_buttons(self):
        for name in ("A2", "B2", "G2", "A3", "H3", "D4", "~A2", "~G2", "H2"):
            table = named(name)
            rng = chance(183)
            for _ in range(10):
                word = random_word(rng, table.size, 12)
                other = word
                for _ in range(60):
                    other = rng.choice(sorted(oracle.swapped_words(table.ties, other)) or [other])
                self.check(table, word, other, swaps(table, word, other))
        free = chain((2, 2, 2, 2))
        word = (4, 4, 4, 3, 3, 3, 2, 2, 1, 1, 0, 0)
        self.check(free, word, word[::-1], swaps(free, word, word[::-1]))

    def test_too_many_buttons(self):
        table = A2
        for many in (13, 60):
            word, other = (0, 1, 0) + (0,) * (many - 3), (1, 0, 1) + (0,) * (many - 3)
            self.refuses(TooMany(many), swaps, table=table, word=word, other_word=other)
            self.assertEqual(self.call(swaps, table=table, word=word, other_word=word), ())
            self.assertIsNone(self.call(swaps, table=table, word=word, other_word=other[:-1] + (1,)))
            self.assertIsNone(self.call(swaps, table=table, word=word, other_word=(0,)))
        self.assertEqual(len(swaps(table, (0, 1, 0) + (0,) * 9, (1, 0, 1) + (0,) * 9)), 1)


class WrongTest(CallCase):
    def test_wrong_makings(self):
        for value in odd_values() + [plain(A2)]:
            self.refuses(NotATable(value), Positive, table=value, word=value)
            self.refuses(NotATable(value), swaps, table=value, word=value, other_word=value)
        for value in odd_values(but=(lambda v: type(v) is tuple,)):
            self.refuses(InvalidWord(None), Positive, table=RING, word=value)
            self.refuses(InvalidWord(None), swaps, table=RING, word=value, other_word=0)
            self.refuses(InvalidWord(None), swaps, table=RING, word=(0,), other_word=value)
        for word, at in (((0, 3), 1), ((True,), 0), ((0,) * 61, 60), ((0,) * 59 + ("x",) * 5, 59), ((0, 0, -1), 2)):
            self.refuses(InvalidWord(at), Positive, table=RING, word=word)
            self.refuses(InvalidWord(at), swaps, table=RING, word=word, other_word=0)
            self.refuses(InvalidWord(at), swaps, table=RING, word=(0,) * 60, other_word=word)

    def test_wrong_positives(self):
        x = Positive(RING, (0,))
        for value in odd_values() + [RING, plain(RING)]:
            for function in BOTH:
                self.refuses(NotAPositive(value), function, positive=value, other=0)
                self.refuses(NotAPositive(value), function, positive=x, other=value)
            self.refuses(NotAPositive(value), shared_continuation, positive=value, other=0, most=-1)
            self.refuses(NotAPositive(value), shared_continuation, positive=x, other=value, most=-1)
            for function in (led_down, is_simple, grains):
                self.refuses(NotAPositive(value), function, positive=value)
        for value in odd_values() + [x]:
            self.refuses(NotAChange(value), lifted, change=value)

    def test_wrong_bounds_and_tables(self):
        x, y = Positive(RING, (0,)), Positive(A2, (0,))
        for value in odd_values(but=(lambda v: type(v) is int and 0 <= v <= 60,)) + [61]:
            self.refuses(InvalidNumber(value), shared_continuation, positive=x, other=y, most=value)
        for function in BOTH:
            self.refuses(OtherTable(), function, positive=x, other=y)
        self.refuses(OtherTable(), shared_continuation, positive=x, other=y, most=0)


if __name__ == "__main__":
    unittest.main()
