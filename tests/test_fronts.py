"""Points 34, 35, what point 18 tells of walls face to face, and the module fronts."""

import itertools
import unittest

import oracle
from oracle import CallCase, chance, odd_values, random_ties, random_word
from wallwalks.changes import Change, many_words, plain
from wallwalks.crossings import crossed, crosses
from wallwalks.ends import how_many, is_finite_room, room_top, top
from wallwalks.errors import InvalidNumber, NotAChange, NotFinite, OtherTable, TooMany
from wallwalks.fronts import beginnings, begins, common_end, common_front, facing_pair, least_continuation
from wallwalks.tables import Table, beside, chain, named
from wallwalks.walls import standing

RING = named("~A2")
PAIR = chain((0,))
BOTH = (begins, common_front, common_end, facing_pair)
FINITE = tuple(named(name) for name in ("A1", "A3", "B3", "H3", "G2")) + (beside(named("A2"), named("B2")), chain((2, 5)))


def some_changes(seed, many, longest=9, most=4):
    rng = chance(seed)
    for _ in range(many):
        kinds = rng.choice((oracle.TIES, (2, 3), (2, 3, 4, 5), (0, 3), (2, 3, 3, 6)))
        table = Table(random_ties(rng, rng.randrange(1, most + 1), kinds))
        yield (table, Change(table, random_word(rng, table.size, rng.randrange(longest + 1))),
               Change(table, random_word(rng, table.size, rng.randrange(longest + 1))))


def is_beginning(change, other):
    """Whether lengths add, by the definition."""
    return other.length == change.length + (change.inverse() * other).length


def changes_of(table, most):
    return [Change(table, word) for layer in oracle.changes_by_length(table.ties, most) for word in layer]


def greatest_front(change, other):
    """By the definition: of the changes that begin both the one that all others begin."""
    shared = [one for one in beginnings(change) if is_beginning(one, other)]
    greatest = [one for one in shared if all(is_beginning(held, one) for held in shared)]
    return greatest[0] if len(greatest) == 1 else None


class BeginTest(CallCase):
    def test_begins(self):
        count = 0
        for table, change, other in some_changes(111, 300, 6):
            other = change * other if len(other.word) % 2 else other
            expected = is_beginning(change, other)
            count += expected
            self.assertIs(self.call(begins, change=change, other=other), expected)
            some = [word[:change.length] for word in oracle.least_words(table.ties, other.word)]
            self.assertIs(any(word in oracle.least_words(table.ties, change.word) for word in some), expected)
            walls = crossed(other)
            self.assertIs(all(wall in walls for wall in crossed(change)), expected)
        self.assertGreater(count, 60)

    def test_beginnings(self):
        for table, change, _ in some_changes(112, 80):
            expected = tuple(one for one in changes_of(table, change.length) if is_beginning(one, change))
            self.assertEqual(self.call(beginnings, change=change), expected)
        for name in ("A3", "B3", "H3", "D4"):
            found = beginnings(top(named(name)))
            self.assertEqual(len(found), how_many(named(name)))
            keys = [(one.length, one.word) for one in found]
            self.assertEqual(keys, sorted(set(keys)))
        self.assertEqual(beginnings(plain(RING)), (plain(RING),))

    def test_more_than_a_thousand_beginnings(self):
        self.assertEqual(len(beginnings(Change(PAIR, (0, 1) * 30) ** 16)), 961)
        self.refuses(TooMany(1000), beginnings, change=Change(PAIR, (0, 1) * 30) ** 17)
        for many, is_fine in ((999, True), (1000, False)):
            change = Change(PAIR, (0, 1) * 30) ** 16 * Change(PAIR, ((0, 1) * 20)[:many - 960])
            self.assertEqual(change.length, many)
            if is_fine:
                self.assertEqual(len(beginnings(change)), 1000)
            else:
                self.refuses(TooMany(1000), beginnings, change=change)
        self.refuses(TooMany(1000), beginnings, change=top(named("A6")))
        self.assertEqual(many_words(Change(PAIR, (0, 1) * 30)), 1)

    def test_common_fronts(self):
        deep = 0
        for table, change, other in some_changes(113, 250):
            if change.length % 2:
                other = change * other
            found = self.call(common_front, change=change, other=other)
            self.assertEqual(found, greatest_front(change, other))
            self.assertEqual(found, common_front(other, change))
            deep += found.length > 2
        self.assertGreater(deep, 20)

    def test_tops_of_common_front_buttons(self):
        for table, change, other in some_changes(114, 100):
            made = plain(table)
            left, right = change, other
            while set(left.fronts) & set(right.fronts):
                room = tuple(sorted(set(left.fronts) & set(right.fronts)))
                self.assertTrue(is_finite_room(table, room))
                one = room_top(table, room)
                self.assertTrue(is_beginning(one, left) and is_beginning(one, right))
                made, left, right = made * one, one * left, one * right
            self.assertEqual(common_front(change, other), made)

    def test_long_changes(self):
        long_one = Change(RING, (0, 1, 2) * 20) ** 3
        further = long_one * Change(RING, (0, 1, 2))
        self.assertEqual(further.length, long_one.length + 3)
        self.assertIs(begins(long_one, further), True)
        self.assertIs(begins(further, long_one), False)
        self.assertEqual(common_front(further, long_one), long_one)
        self.assertIsNone(least_continuation(further, long_one, 60))
        self.assertIsNone(facing_pair(long_one, further))


class ContinuationTest(CallCase):
    def test_of_finite_tables(self):
        for table in FINITE:
            every = changes_of(table, top(table).length)
            rng = chance(115)
            for _ in range(40):
                change, other = rng.choice(every), rng.choice(every)
                shared = [one for one in every if is_beginning(change, one) and is_beginning(other, one)]
                found = self.call(common_end, change=change, other=other)
                self.assertEqual(found, shared[0])
                self.assertTrue(all(is_beginning(found, one) for one in shared))
                for most in {found.length, 60, top(table).length}:
                    self.assertEqual(self.call(least_continuation, change=change, other=other, most=most), found)
                for most in {0, max(found.length - 1, 0), change.length, other.length} - {found.length}:
                    if most < found.length:
                        self.assertIsNone(self.call(least_continuation, change=change, other=other, most=most))

    def test_of_all_tables(self):
        there = bars = 0
        for table, change, other in some_changes(116, 250, 4, 3):
            every = changes_of(table, 8)
            shared = [one for one in every if is_beginning(change, one) and is_beginning(other, one)]
            found = self.call(least_continuation, change=change, other=other, most=8)
            self.assertEqual(found, shared[0] if shared else None)
            self.assertTrue(all(is_beginning(shared[0], one) for one in shared))
            barred = facing_pair(change, other)
            self.assertFalse(barred is not None and least_continuation(change, other, 60) is not None)
            there += bool(shared)
            bars += barred is not None
        self.assertGreater(min(there, bars), 15)

    def test_named_ones(self):
        self.assertIsNone(least_continuation(Change(RING, (2,)), Change(RING, (0, 1)), 60))
        three = Table(oracle.rows_of(3, {(0, 1): 3, (0, 2): 3, (1, 2): 3}))
        self.assertIsNone(least_continuation(Change(three, (2,)), Change(three, (0, 1)), 60))
        self.assertEqual(least_continuation(plain(RING), plain(RING), 0), plain(RING))
        self.assertEqual(least_continuation(plain(RING), Change(RING, (0,)), 1), Change(RING, (0,)))
        self.assertIsNone(least_continuation(plain(RING), Change(RING, (0,)), 0))
        self.assertIsNone(least_continuation(Change(PAIR, (0,)), Change(PAIR, (1,)), 60))
        table = named("H4")
        self.assertEqual(least_continuation(Change(table, (0, 1, 2, 3)), Change(table, (3, 2, 1, 0)), 60),
                         common_end(Change(table, (0, 1, 2, 3)), Change(table, (3, 2, 1, 0))))
        self.assertEqual(least_continuation(top(table) * Change(table, (0,)), top(table) * Change(table, (3,)), 60), top(table))
        self.assertIsNone(least_continuation(top(table) * Change(table, (0,)), top(table) * Change(table, (3,)), 59))

    def test_long_ones_that_have_none(self):
        rng = chance(117)
        for name in ("~A5", "~C5", "~F4", "~D5"):
            table = named(name)
            for _ in range(10):
                change = Change(table, random_word(rng, table.size, 60))
                other = Change(table, random_word(rng, table.size, 60))
                found = least_continuation(change, other, 60)
                if found is not None:
                    self.assertTrue(is_beginning(change, found) and is_beginning(other, found))

    def test_facing_pairs(self):
        pairs = 0
        for table, change, other in some_changes(118, 150):
            expected = next(((x, y) for x in crossed(change) for y in crossed(other) if standing(x, y) == "facing"), None)
            self.assertEqual(self.call(facing_pair, change=change, other=other), expected)
            pairs += expected is not None
            if expected is not None:
                self.assertEqual(type(expected), tuple)
                self.assertIs(crosses(change, expected[0]) and crosses(other, expected[1]), True)
        self.assertGreater(pairs, 12)
        for table in FINITE:
            self.assertIsNone(facing_pair(top(table), top(table)))

    def test_facing_pairs_of_unlike_pairings(self):
        """Where ties 4 and 6 make the two pairings unlike, and with golden ones."""
        for table in (chain((4, 4)), chain((6, 3)), chain((4, 6)), chain((5, 5)), chain((0, 4)), chain((0,)), chain((5, 6))):
            every = changes_of(table, 4)
            for change, other in itertools.product(every, every[::2]):
                expected = next(((x, y) for x in crossed(change) for y in crossed(other) if standing(x, y) == "facing"), None)
                self.assertEqual(facing_pair(change, other), expected)

    def test_no_change_crosses_walls_face_to_face(self):
        for table in (RING, PAIR, chain((0, 3)), named("~C2"), chain((5, 5))):
            for change in changes_of(table, 7)[::5]:
                for x, y in itertools.combinations(crossed(change), 2):
                    self.assertNotEqual(standing(x, y), "facing")


class WrongTest(CallCase):
    def test_wrong_changes(self):
        change = Change(RING, (0,))
        for value in odd_values() + [RING]:
            for function in BOTH:
                self.refuses(NotAChange(value), function, change=value, other=0)
                self.refuses(NotAChange(value), function, change=change, other=value)
            self.refuses(NotAChange(value), least_continuation, change=value, other=0, most=-1)
            self.refuses(NotAChange(value), least_continuation, change=change, other=value, most=-1)
            self.refuses(NotAChange(value), beginnings, change=value)

    def test_wrong_bounds_and_tables(self):
        change, other = Change(RING, (0,)), Change(chain((3,)), (0,))
        for value in odd_values(but=(lambda v: type(v) is int and 0 <= v <= 60,)) + [61]:
            self.refuses(InvalidNumber(value), least_continuation, change=change, other=other, most=value)
        for function in BOTH:
            self.refuses(OtherTable(), function, change=change, other=other)
        self.refuses(OtherTable(), least_continuation, change=change, other=other, most=60)

    def test_tables_that_are_not_finite(self):
        for table in (RING, PAIR, beside(named("A2"), PAIR)):
            self.refuses(NotFinite(), common_end, change=plain(table), other=plain(table))


if __name__ == "__main__":
    unittest.main()
