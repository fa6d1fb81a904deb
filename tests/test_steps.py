"""Points 10, 13, 14 and the module steps."""

import itertools
import unittest

import oracle
from oracle import CallCase, Odd, chance, odd_values, random_ties, random_word
from wallwalks.changes import Change
from wallwalks.errors import InvalidStep, InvalidWord, NotATable, TooMany
from wallwalks.steps import is_least, is_step, spare, stepped, steps_of, way
from wallwalks.tables import Table, beside, chain, named

FULL = chain((3, 4))


def by_definition(table, word, step):
    """The word behind a step by point 10; None if it cannot be done."""
    if step[0] == "add":
        _, at, s = step
        return word[:at] + (s, s) + word[at:] if 0 <= at <= len(word) and 0 <= s < table.size else None
    at = step[1]
    if not 0 <= at <= len(word) - 2:
        return None
    s, t = word[at], word[at + 1]
    if step[0] == "drop":
        return word[:at] + word[at + 2:] if s == t else None
    m = table.tie(s, t)
    if s == t or m == 0 or word[at:at + m] != ((s, t) * m)[:m]:
        return None
    return word[:at] + ((t, s) * m)[:m] + word[at + m:]


class StepTest(CallCase):
    def test_steps(self):
        rng = chance(31)
        for _ in range(200):
            table = Table(random_ties(rng, rng.randrange(1, 5)))
            word = random_word(rng, table.size, rng.randrange(9))
            some = [("add", at, s) for at in range(-1, len(word) + 2) for s in range(-1, table.size + 1)]
            some += [(kind, at) for at in range(-2, len(word) + 2) for kind in ("drop", "swap")]
            for step in some:
                expected = by_definition(table, word, step)
                self.assertIs(self.call(is_step, table=table, word=word, value=step), expected is not None)
                if expected is None:
                    self.refuses(InvalidStep(step), stepped, table=table, word=word, step=step)
                else:
                    self.assertEqual(self.call(stepped, table=table, word=word, step=step), expected)
            expected = [(kind, at) for at in range(len(word)) for kind in ("swap", "drop")
                        if by_definition(table, word, (kind, at)) is not None]
            self.assertEqual(self.call(steps_of, table=table, word=word), tuple(expected))

    def test_each_tie(self):
        for m in (2, 3, 4, 5, 6):
            table = chain((m,))
            word = ((0, 1) * 6)[:m]
            self.assertEqual(stepped(table, word, ("swap", 0)), ((1, 0) * 6)[:m])
            self.assertEqual(stepped(table, (0,) + word[::-1] + (0,), ("swap", 1))[1:-1], word if m % 2 == 0 else ((1, 0) * 6)[:m])
            self.assertIs(is_step(table, word[1:], ("swap", 0)), False)
        self.assertEqual(steps_of(chain((0,)), (0, 1) * 20), ())

    def test_a_full_word_can_have_two_more(self):
        word = (0, 1) * 30
        self.assertEqual(len(stepped(FULL, word, ("add", 60, 2))), 62)
        self.assertIs(is_step(FULL, word, ("add", 61, 2)), False)

    def test_what_is_no_step(self):
        word = (0, 0, 1, 0)
        wrong = odd_values() + [
            ["drop", 0], ("drop",), ("drop", 0, 0), ("swap", 1, 0), ("add", 0), ("add", 0, 0, 0), ("drop", True),
            ("drop", False), ("add", True, 0), ("add", 0, True), ("add", 0, False), ("swap", True), ("Drop", 0),
            ("drop", "0"), ("drop", None), (Odd(), 0), ("drop", Odd()), ("add", Odd(), Odd()), ("drop", (0,)), (None, 0),
            ("drop", 10 ** 59), ("add", 10 ** 59, 0), ("swap", -1), ("drop", -4), (b"drop", 0), "drop", (("drop", 0),),
        ]
        for value in wrong:
            self.assertIs(self.call(is_step, table=FULL, word=word, value=value), False)
            self.refuses(InvalidStep(value), stepped, table=FULL, word=word, step=value)

    def test_wrong_tables_and_words(self):
        for function, last in (
            (is_step, {"value": 0}), (stepped, {"step": 0}), (steps_of, {}), (is_least, {}), (spare, {}),
            (way, {"other_word": 0}),
        ):
            for value in odd_values():
                self.refuses(NotATable(value), function, table=value, word=value, **last)
            for value in odd_values(but=(lambda v: type(v) is tuple,)):
                self.refuses(InvalidWord(None), function, table=FULL, word=value, **last)
            for value in odd_values(but=(lambda v: type(v) is int and 0 <= v < 3,)):
                self.refuses(InvalidWord(2), function, table=FULL, word=(0, 1, value, "x"), **last)
            self.refuses(InvalidWord(60), function, table=FULL, word=(0,) * 61, **last)
        for value in odd_values(but=(lambda v: type(v) is tuple,)):
            self.refuses(InvalidWord(None), way, table=FULL, word=(), other_word=value)
        self.refuses(InvalidWord(1), way, table=FULL, word=(), other_word=(0, 3, "x"))
        self.refuses(InvalidWord(60), way, table=FULL, word=(), other_word=(0,) * 70)


class SpareTest(CallCase):
    def test_least_words_and_spare_pairs(self):
        rng = chance(32)
        for _ in range(400):
            table = Table(random_ties(rng, rng.randrange(1, 5), rng.choice((oracle.TIES, (2, 3)))))
            word = random_word(rng, table.size, rng.randrange(9))
            first = oracle.first_word(table.ties, word)
            self.assertIs(self.call(is_least, table=table, word=word), len(first) == len(word))
            pairs = [
                (i, j) for j in range(len(word)) for i in range(j)
                if oracle.first_word(table.ties, word[:i] + word[i + 1:j] + word[j + 1:]) == first
            ]
            found = self.call(spare, table=table, word=word)
            if not pairs:
                self.assertIsNone(found)
                continue
            self.assertIn(found, pairs)
            least = min(j for _, j in pairs)
            self.assertEqual([pair for pair in pairs if pair[1] == least], [found])

    def test_by_the_axes(self):
        rng = chance(33)
        for _ in range(100):
            table = Table(random_ties(rng, rng.randrange(2, 7)))
            word = random_word(rng, table.size, 40)
            walls = [oracle.up(oracle.turn_by(table.ties, oracle.axis(table.size, s), word[:at]))
                     for at, s in enumerate(word)]
            expected = next(((walls.index(x), j) for j, x in enumerate(walls) if x in walls[:j]), None)
            self.assertEqual(spare(table, word), expected)
        self.assertIsNone(spare(chain((0,)), (0, 1) * 30))
        self.assertEqual(spare(chain((6,)), (0, 1) * 30), (0, 6))


class WayTest(CallCase):
    def walked(self, table, word, other_word):
        """Whether a way leads where it should, each step being one."""
        steps = self.call(way, table=table, word=word, other_word=other_word)
        self.assertIs(type(steps), tuple)
        self.assertLessEqual(len(steps), 4000)
        for step in steps:
            self.assertIs(is_step(table, word, step), True)
            word = by_definition(table, word, step)
        self.assertEqual(word, other_word)
        return steps

    def test_ways_between_words_by_chance(self):
        rng = chance(34)
        led = 0
        for _ in range(500):
            table = Table(random_ties(rng, rng.randrange(1, 4), rng.choice((oracle.TIES, (2, 3), (2, 3, 4)))))
            word = random_word(rng, table.size, rng.randrange(8))
            other = random_word(rng, table.size, rng.randrange(8))
            if oracle.first_word(table.ties, word) == oracle.first_word(table.ties, other):
                self.walked(table, word, other)
                led += 1
            else:
                self.assertIsNone(self.call(way, table=table, word=word, other_word=other))
        self.assertGreater(led, 20)

    def test_ways_between_words_of_one_change(self):
        rng = chance(35)
        for _ in range(150):
            table = Table(random_ties(rng, rng.randrange(2, 7), rng.choice(((2, 3), (3, 4, 5, 6), (2, 3, 4), (0, 2, 3)))))
            word = other = random_word(rng, table.size, rng.randrange(6, 13))
            for _ in range(60):
                some = list(steps_of(table, other))
                if len(other) <= 10:
                    some += [("add", rng.randrange(len(other) + 1), rng.randrange(table.size))]
                if some:
                    other = by_definition(table, other, rng.choice(some))
            self.walked(table, word, other)

    def test_between_all_least_words(self):
        for table, word in (
            (named("A4"), (0, 1, 0, 2, 1, 0, 3, 2, 1, 0)), (named("H3"), (0, 1, 2) * 4),
            (named("G2"), (0, 1) * 3), (named("B3"), (0, 1, 0, 2, 1, 0, 2, 1, 2)), (named("D4"), (1, 0, 2, 3) * 3),
            (beside(named("G2"), named("G2")), (0, 1) * 3 + (2, 3) * 3), (named("A6"), (0, 2, 4, 1, 3, 5) * 2),
        ):
            words = oracle.least_words(table.ties, word)
            self.assertEqual(len(words[0]), len(word))
            steps = self.walked(table, words[0], words[-1])
            self.assertEqual({step[0] for step in steps}, {"swap"})
            self.walked(table, words[-1], words[len(words) // 2])

    def test_of_long_words(self):
        word = (0, 1) * 7
        self.assertEqual(self.call(way, table=chain((0,)), word=word, other_word=word), ())
        self.assertIsNone(way(FULL, (0,) * 13, ()))
        self.assertIsNone(way(chain((0,)), word, (0, 1) * 8))
        for first, second in itertools.permutations((word + word, (), (0, 0), (1,) * 14), 2):
            if max(len(first), len(second)) > 12:
                many = max(len(first), len(second))
                self.refuses(TooMany(many), way, table=chain((2,)), word=first, other_word=second)
        self.walked(FULL, (0,) * 12, ())
        self.walked(FULL, (0,) * 12, (1,) * 12)
        self.walked(FULL, (0, 1) * 6, (2,) * 12)


class ExchangeTest(unittest.TestCase):
    def test_just_one_button_can_be_left_out(self):
        rng = chance(36)
        for _ in range(150):
            table = Table(random_ties(rng, rng.randrange(1, 5)))
            change = Change(table, random_word(rng, table.size, 12))
            word = change.word
            for s in change.backs:
                shorter = change * Change(table, (s,))
                left_out = [at for at in range(len(word)) if Change(table, word[:at] + word[at + 1:]) == shorter]
                self.assertEqual(len(left_out), 1)
                self.assertEqual(spare(table, word + (s,)), (left_out[0], len(word)))


if __name__ == "__main__":
    unittest.main()
