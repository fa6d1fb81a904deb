"""Points 27 to 30, what point 18 tells of walls behind walls, and the module machines."""

import itertools
import unittest

import oracle
from oracle import CallCase, chance, odd_values, random_ties, random_word
from wallwalks.changes import Change, least_words, plain
from wallwalks.counts import counts
from wallwalks.crossings import crossed, crosses
from wallwalks.ends import how_many, top
from wallwalks.errors import InvalidNumber, InvalidWord, NotAChange, NotATable, NotAWall, TooMany
from wallwalks.machines import (
    Reader, change_at, far_alike, far_lots, first_reader, is_small, least_reader, next_change, number_of, walls_small,
)
from wallwalks.steps import is_least
from wallwalks.tables import Table, beside, chain, named
from wallwalks.walls import Wall, meeting, standing, wall_turned, walls_all, walls_at

RING = named("~A2")
PAIR = chain((0,))
FREE = Table(oracle.rows_of(3, {(0, 1): 0, (0, 2): 0, (1, 2): 0}))
APART = chain((2,))
MANY_SMALL = Table.read("table: 1 2 2 2 5 3; 2 1 2 2 3 2; 2 2 1 2 3 5; 2 2 2 1 5 2; 5 3 3 5 1 2; 3 2 5 2 2 1")
TABLES = (
    chain(()), APART, PAIR, chain((3,)), chain((5,)), chain((6,)), RING, FREE, named("~C2"), named("~G2"), named("A3"),
    named("H3"), named("B3"), chain((0, 3)), chain((3, 0, 3)), chain((5, 5)), chain((4, 6)), named("~A3"),
    Table(oracle.rows_of(3, {(0, 1): 4, (0, 2): 5, (1, 2): 3})), Table(oracle.rows_of(3, {(0, 1): 6, (0, 2): 0, (1, 2): 3})),
    Table(oracle.rows_of(3, {(0, 1): 3, (0, 2): 3, (1, 2): 4})), beside(chain((0,)), chain((3,))),
)


def walls_up_to(table, depth):
    return [wall for at in range(1, depth + 1) for wall in walls_at(table, at)]


def changes_in_order(table, most):
    """All changes of a length of at most `most`, in order, by the oracle."""
    return [Change(table, word) for layer in oracle.changes_by_length(table.ties, most) for word in layer]


def words_up_to(table, most):
    for length in range(most + 1):
        yield from itertools.product(range(table.size), repeat=length)


def far_lot(ties, word):
    """All words to which swaps of buttons that are apart lead."""
    lot, edge = {word}, [word]
    while edge:
        one = edge.pop()
        for at in range(len(one) - 1):
            other = one[:at] + (one[at + 1], one[at]) + one[at + 2:]
            if ties[one[at]][one[at + 1]] == 2 and other not in lot:
                lot.add(other)
                edge.append(other)
    return lot


class SmallTest(CallCase):
    def test_small_by_the_definition(self):
        behind_some = 0
        for table in TABLES:
            walls = walls_up_to(table, 5)
            for wall in walls:
                behind = [other for other in walls if standing(wall, other) == "behind"]
                behind_some += bool(behind)
                self.assertIs(self.call(is_small, wall=wall), not behind)
        self.assertGreater(behind_some, 100)

    def test_small_walls_in_order(self):
        for table in TABLES:
            found = self.call(walls_small, table=table)
            self.assertEqual(type(found), tuple)
            keys = [(wall.depth, wall.road) for wall in found]
            self.assertEqual(keys, sorted(set(keys)))
            deepest = keys[-1][0]
            every = [wall for wall in walls_up_to(table, min(deepest + 2, 6)) if is_small(wall)]
            self.assertEqual(list(found)[:len(every)], every)
            self.assertTrue(all(wall.depth > 6 for wall in found[len(every):]))
            self.assertTrue(all(is_small(wall) for wall in found))

    def test_how_many_small_walls(self):
        for name in ("A1", "A3", "B4", "D4", "F4", "G2", "H3", "H4", "E6", "B6"):
            self.assertEqual(walls_small(named(name)), walls_all(named(name)))
        for name, many in (("~A1", 2), ("~A2", 6), ("~A3", 12), ("~C2", 8), ("~G2", 12), ("~B3", 18), ("~A5", 30),
                           ("~C5", 50), ("~D5", 40), ("~F4", 48)):
            self.assertEqual(len(walls_small(named(name))), many)
        self.assertEqual([wall.road for wall in walls_small(FREE)], [((), 0), ((), 1), ((), 2)])

    def test_more_than_sixty(self):
        self.assertEqual(len(walls_small(named("H4"))), 60)
        self.assertEqual(len(walls_small(beside(named("H3"), named("H3")))), 30)
        for table in (beside(named("H4"), chain(())), beside(named("H4"), named("G2")), MANY_SMALL):
            self.refuses(TooMany(60), walls_small, table=table)
            self.refuses(TooMany(60), least_reader, table=table)
            self.refuses(TooMany(60), first_reader, table=table)
            self.refuses(TooMany(60), number_of, change=plain(table))
            self.refuses(TooMany(60), next_change, change=plain(table))
            self.refuses(TooMany(60), change_at, table=table, number=0)
            self.assertIs(is_small(Wall(table, (), 0)), True)
            self.assertIs(far_alike(table, (0, 1), (1, 0)), table.ties[0][1] == 2)

    def test_deep_walls(self):
        table = chain((0, 3))
        self.assertIs(is_small(Wall(table, (0, 1) * 20, 0)), False)
        self.assertIs(is_small(Wall(PAIR, (0, 1) * 30, 0)), False)
        deep = wall_turned(Change(table, (0, 1, 2) * 20) ** 5, Wall(table, (), 0))
        self.assertGreater(deep.depth, 100)
        self.assertIs(is_small(deep), False)

    def test_buttons_turn_small_walls(self):
        for table in TABLES:
            for wall in walls_small(table):
                for s in range(table.size):
                    own = Wall(table, (), s)
                    sign = oracle.g_sign(oracle.level(table.ties, oracle.pairs(wall.axis), s))
                    turned = wall_turned(Change(table, (s,)), wall)
                    if wall == own or sign == 0:
                        self.assertEqual(turned, wall)
                    elif sign > 0 or meeting(wall, own):
                        self.assertIs(is_small(turned), True)
                    else:
                        self.assertIs(is_small(turned), False)
                        self.assertEqual(standing(turned, own), "behind")

    def test_behind_goes_on_and_never_round(self):
        triples = 0
        for table in (RING, PAIR, FREE, chain((0, 3)), named("~C2"), chain((5, 5))):
            walls = walls_up_to(table, 4)
            stands = {(x, y): standing(walls[x], walls[y]) for x in range(len(walls)) for y in range(len(walls))}
            for x, y in stands:
                self.assertFalse(stands[x, y] == "behind" and stands[y, x] == "behind")
                for z in range(len(walls)):
                    if stands[x, y] == stands[y, z] == "behind":
                        triples += 1
                        self.assertEqual(stands[x, z], "behind")
        self.assertGreater(triples, 50)

    def test_what_crosses_a_wall_crosses_those_it_stands_behind(self):
        for table in (RING, chain((0, 3)), named("~C2")):
            walls = walls_up_to(table, 4)
            for change in changes_in_order(table, 6):
                own = crossed(change)
                for x in own:
                    for y in walls:
                        if standing(x, y) == "behind":
                            self.assertIs(crosses(change, y), True)


class ReaderTest(CallCase):
    def test_what_is_read(self):
        for table in TABLES:
            least, first = self.call(least_reader, table=table), self.call(first_reader, table=table)
            for word in words_up_to(table, 6 if table.size < 3 else 5 if table.size == 3 else 4):
                self.assertIs(self.call(least.reads, word=word), is_least(table, word))
                self.assertIs(self.call(first.reads, word=word), Change(table, word).word == word)
                for reader in (least, first):
                    self.assertIs(self.call(reader.state, word=word) is None, not reader.reads(word))

    def test_long_words(self):
        rng = chance(81)
        for table in TABLES:
            least, first = least_reader(table), first_reader(table)
            for _ in range(15):
                change = Change(table, random_word(rng, table.size, rng.randrange(61)))
                self.assertIs(first.reads(change.word), True)
                self.assertIs(least.reads(change.word), True)
                back = change.inverse().word[::-1]
                self.assertIs(least.reads(back), True)
                self.assertIs(first.reads(back), back == change.word)
                self.assertIs(least.reads((change.word + change.word)[:60]),
                              is_least(table, (change.word + change.word)[:60]))

    def test_states_are_what_they_tell(self):
        for table in TABLES:
            for reader in (least_reader(table), first_reader(table)):
                self.assertEqual(reader.table, table)
                self.assertEqual(reader.walls, walls_small(table))
                self.assertEqual(reader.states[0], ())
                self.assertEqual(len(reader), len(reader.states))
                self.assertEqual(len(reader.leads), len(reader.states))
                self.assertEqual(len(set(reader.states)), len(reader.states))
                self.assertIs(bool(reader), True)
                for state, leads in zip(reader.states, reader.leads):
                    self.assertEqual(list(state), sorted(set(state)))
                    self.assertEqual(len(leads), table.size)
                    for s, lead in enumerate(leads):
                        own = reader.walls.index(Wall(table, (), s))
                        self.assertIs(lead is None, own in state)

    def test_states_in_the_order_in_which_they_are_met(self):
        for table in TABLES:
            for reader in (least_reader(table), first_reader(table)):
                met = [0]
                for at in range(len(reader)):
                    for lead in reader.leads[at]:
                        if lead is not None and lead not in met:
                            met.append(lead)
                self.assertEqual(met, list(range(len(reader))))

    def test_states_of_least_words(self):
        rng = chance(82)
        for table in TABLES:
            reader = least_reader(table)
            for _ in range(25):
                change = Change(table, random_word(rng, table.size, rng.randrange(10)))
                back = change.inverse()
                expected = tuple(at for at, wall in enumerate(reader.walls) if crosses(back, wall))
                for word in least_words(change)[:5]:
                    self.assertEqual(reader.states[reader.state(word)], expected)

    def test_states_of_first_words(self):
        rng = chance(83)
        for table in TABLES:
            reader = first_reader(table)
            axes = [oracle.pairs(wall.axis) for wall in reader.walls]
            for _ in range(25):
                word = Change(table, random_word(rng, table.size, rng.randrange(12))).word
                held = set()
                for s in word:
                    own = oracle.axis(table.size, s)
                    lesser = {oracle.axis(table.size, t) for t in range(s)}
                    turned = {oracle.up(oracle.turn(table.ties, axis, s)) for axis in held | lesser}
                    held = {axis for axis in turned | {own} if axis in axes}
                expected = tuple(at for at, axis in enumerate(axes) if axis in held)
                self.assertEqual(reader.states[reader.state(word)], expected)

    def test_how_many_words(self):
        for table in TABLES:
            first, least = first_reader(table), least_reader(table)
            layers = oracle.changes_by_length(table.ties, 5)
            for length in range(6):
                self.assertEqual(self.call(first.how_many, length=length), len(layers[length]))
                many = sum(len(oracle.least_words(table.ties, word)) for word in layers[length])
                self.assertEqual(self.call(least.how_many, length=length), many)
            self.assertEqual(tuple(first.how_many(length) for length in range(61)), counts(table, 61))
        self.assertEqual(least_reader(FREE).how_many(60), 3 * 2 ** 59)

    def test_equal_readers(self):
        self.assertIs(least_reader(PAIR) == first_reader(PAIR), True)
        self.assertIs(least_reader(RING) == first_reader(RING), False)
        self.assertIs(least_reader(RING) != first_reader(RING), True)
        self.assertIs(least_reader(RING) == least_reader(Table(RING.ties)), True)
        self.assertIs(least_reader(chain((3,))) == least_reader(chain((4,))), False)
        for value in odd_values() + [RING, first_reader(RING).leads]:
            self.assertIs(least_reader(RING) == value, False)
            self.assertIs(least_reader(RING) != value, True)
        self.assertIs(first_reader(chain((0, 2))) == first_reader(chain((2, 0))), False)
        self.assertIs(type(least_reader(RING)) is Reader, True)

    def test_more_than_four_hundred_states(self):
        self.assertEqual(len(least_reader(named("B4"))), 384)
        self.assertEqual(len(least_reader(named("~B3"))), 343)
        self.assertEqual(len(first_reader(named("F4"))), 363)
        self.refuses(TooMany(400), least_reader, table=named("F4"))
        for name in ("H4", "E6", "~A5", "~F4"):
            table = named(name)
            self.refuses(TooMany(400), least_reader, table=table)
            self.refuses(TooMany(400), first_reader, table=table)
            self.refuses(TooMany(400), number_of, change=plain(table))
            self.refuses(TooMany(400), next_change, change=Change(table, (0,)))
            self.refuses(TooMany(400), change_at, table=table, number=0)

    def test_just_so_many_states(self):
        # 20 changes beside 20: 400 states, as those of both pieces are combined.
        table = beside(beside(named("H2"), chain(())), beside(named("H2"), chain(())))
        self.assertEqual(len(least_reader(table)), 400)
        self.refuses(TooMany(400), least_reader, table=beside(beside(named("G2"), chain(())), named("A3")))
        self.assertEqual(len(first_reader(Table.read("table: 1 3 3 4 4; 3 1 2 2 4; 3 2 1 4 2; 4 2 4 1 3; 4 4 2 3 1"))), 398)


class NumberTest(CallCase):
    def test_changes_in_order(self):
        for table in TABLES:
            some = changes_in_order(table, 4 if table.size > 2 else 12)
            some = some[:400]
            is_whole = len(some) == how_many(table)
            for number, change in enumerate(some):
                self.assertEqual(self.call(number_of, change=change), number)
                self.assertEqual(self.call(change_at, table=table, number=number), change)
                if number + 1 < len(some):
                    self.assertEqual(self.call(next_change, change=change), some[number + 1])
            self.assertIs(self.call(next_change, change=some[-1]) is None, is_whole)

    def test_the_last_ones(self):
        for name in ("A1", "A3", "B3", "H3", "G2", "D4", "A4"):
            table = named(name)
            last = top(table)
            self.assertEqual(number_of(last), how_many(table) - 1)
            self.assertIsNone(next_change(last))
            self.assertEqual(change_at(table, how_many(table) - 1), last)
            for number in (how_many(table), how_many(table) + 1, 10 ** 30):
                self.assertIsNone(self.call(change_at, table=table, number=number))

    def test_long_changes(self):
        self.assertEqual(change_at(PAIR, 120).word, (1, 0) * 30)
        for number in (121, 122, 10 ** 30):
            self.refuses(TooMany(60), change_at, table=PAIR, number=number)
        self.refuses(TooMany(60), change_at, table=RING, number=10 ** 30)
        ahead = sum(counts(RING, 61))
        self.assertEqual(change_at(RING, ahead - 1).length, 60)
        self.refuses(TooMany(60), change_at, table=RING, number=ahead)
        change = change_at(FREE, 10 ** 17)
        self.assertEqual(number_of(change), 10 ** 17)
        long_one = Change(PAIR, (0, 1) * 30) ** 10
        self.assertEqual(number_of(long_one), 2 * 600 - 1)
        self.assertEqual(next_change(long_one).word, (1, 0) * 300)
        self.assertEqual(next_change(next_change(long_one)).word, (0, 1) * 300 + (0,))
        long_one = Change(RING, (0, 1, 2) * 20) ** 2
        behind = next_change(long_one)
        self.assertEqual(number_of(behind), number_of(long_one) + 1)
        self.assertGreater((behind.length, behind.word), (long_one.length, long_one.word))


class FarTest(CallCase):
    def test_far_alike(self):
        rng = chance(84)
        for _ in range(60):
            table = Table(random_ties(rng, rng.randrange(1, 5), (2, 2, 3, 0)))
            word = random_word(rng, table.size, rng.randrange(8))
            lot = far_lot(table.ties, word)
            for other in itertools.islice(lot, 10):
                self.assertIs(self.call(far_alike, table=table, word=word, other_word=other), True)
            for _ in range(8):
                other = list(word)
                rng.shuffle(other)
                self.assertIs(far_alike(table, word, tuple(other)), tuple(other) in lot)
            other = random_word(rng, table.size, len(word))
            self.assertIs(far_alike(table, word, other), other in lot)
            self.assertIs(far_alike(table, word, word + (0,)), False)

    def test_ties_that_are_not_apart(self):
        self.assertIs(far_alike(PAIR, (0, 1), (1, 0)), False)
        self.assertIs(far_alike(chain((3,)), (0, 1, 0), (1, 0, 1)), False)
        self.assertIs(far_alike(APART, (0, 0, 1), (1, 0, 0)), True)
        self.assertIs(far_alike(APART, (0, 0), ()), False)
        self.assertIs(far_alike(chain(()), (), ()), True)
        self.assertIs(far_alike(APART, (0, 1) * 30, (1,) * 30 + (0,) * 30), True)

    def test_far_lots(self):
        rng = chance(85)
        for _ in range(40):
            table = Table(random_ties(rng, rng.randrange(1, 5), (2, 2, 3, 3, 4)))
            change = Change(table, random_word(rng, table.size, rng.randrange(9)))
            lots = {min(far_lot(table.ties, word)) for word in oracle.least_words(table.ties, change.word)}
            self.assertEqual(self.call(far_lots, change=change), tuple(sorted(lots)))
        self.assertEqual(far_lots(plain(RING)), ((),))
        self.assertEqual(len(far_lots(top(named("A3")))), 8)

    def test_too_many_least_words(self):
        table = beside(beside(chain((2, 2)), chain(())), chain((0,)))
        fine = Change(table, (0, 1, 2, 3, 4, 5))
        self.assertEqual(len(least_words(fine)), 360)
        self.assertEqual(far_lots(fine), ((0, 1, 2, 3, 4, 5),))
        self.refuses(TooMany(1000), far_lots, change=Change(table, (0, 1, 2, 3, 4, 5, 4, 5)))
        self.assertEqual(len(far_lots(Change(table, (0, 1, 2, 3, 4, 5, 4)))), 1)
        self.refuses(TooMany(1000), far_lots, change=top(named("A6")))
        self.refuses(TooMany(1000), far_lots, change=Change(PAIR, (0, 1) * 30) ** 17)
        self.assertEqual(len(far_lots(Change(PAIR, (0, 1) * 30) ** 16)), 1)


class WrongTest(CallCase):
    def test_wrong_tables_walls_and_changes(self):
        for value in odd_values() + [plain(RING)]:
            self.refuses(NotAWall(value), is_small, wall=value)
            for function in (walls_small, least_reader, first_reader):
                self.refuses(NotATable(value), function, table=value)
            self.refuses(NotATable(value), change_at, table=value, number=-1)
            self.refuses(NotATable(value), far_alike, table=value, word=0, other_word=0)
        for value in odd_values() + [RING]:
            for function in (number_of, next_change, far_lots):
                self.refuses(NotAChange(value), function, change=value)

    def test_wrong_numbers(self):
        for value in odd_values(but=(lambda v: type(v) is int and 0 <= v <= 10 ** 30,)) + [10 ** 30 + 1, -1]:
            self.refuses(InvalidNumber(value), change_at, table=RING, number=value)
            self.refuses(InvalidNumber(value), change_at, table=MANY_SMALL, number=value)
        reader = least_reader(RING)
        for value in odd_values(but=(lambda v: type(v) is int and 0 <= v <= 60,)) + [61]:
            self.refuses(InvalidNumber(value), reader.how_many, length=value)

    def test_wrong_words(self):
        reader = first_reader(RING)
        for value in odd_values(but=(lambda v: type(v) is tuple,)) + [[0]]:
            self.refuses(InvalidWord(None), reader.reads, word=value)
            self.refuses(InvalidWord(None), reader.state, word=value)
            self.refuses(InvalidWord(None), far_alike, table=RING, word=value, other_word=0)
            self.refuses(InvalidWord(None), far_alike, table=RING, word=(0,), other_word=value)
        for word, at in (((0, 3), 1), ((True,), 0), ((0,) * 61, 60), ((0,) * 59 + ("x",) * 5, 59), ((0, 0, -1), 2)):
            self.refuses(InvalidWord(at), reader.reads, word=word)
            self.refuses(InvalidWord(at), reader.state, word=word)
            self.refuses(InvalidWord(at), far_alike, table=RING, word=word, other_word=0)
            self.refuses(InvalidWord(at), far_alike, table=RING, word=(0,) * 60, other_word=word)
        self.assertIs(reader.reads((0, 0) * 30), False)


if __name__ == "__main__":
    unittest.main()
