"""Points 22, 23, 24 and the module ends."""

import itertools
import unittest

import oracle
from oracle import CallCase, chance, odd_values, random_ties
from test_tables import LINKS
from wallwalks.changes import Change, plain
from wallwalks.ends import (
    climbing, degrees, how_many, is_finite, is_finite_room, kinds, names, room_top, top, weighing,
)
from wallwalks.errors import AllFinite, InvalidRoom, NotATable, NotFinite
from wallwalks.goldens import Golden
from wallwalks.steps import is_least
from wallwalks.tables import Table, beside, chain, named, part, renamed

SIGNS = {"finite": 1, "flat": 0, "wild": -1}

DEGREES = {
    "A1": (2,), "A2": (2, 3), "A3": (2, 3, 4), "A4": (2, 3, 4, 5), "A5": (2, 3, 4, 5, 6), "A6": (2, 3, 4, 5, 6, 7),
    "B2": (2, 4), "B3": (2, 4, 6), "B4": (2, 4, 6, 8), "B5": (2, 4, 6, 8, 10), "B6": (2, 4, 6, 8, 10, 12),
    "D4": (2, 4, 4, 6), "D5": (2, 4, 5, 6, 8), "D6": (2, 4, 6, 6, 8, 10), "E6": (2, 5, 6, 8, 9, 12),
    "F4": (2, 6, 8, 12), "G2": (2, 6), "H2": (2, 5), "H3": (2, 6, 10), "H4": (2, 12, 20, 30),
}

WILD = (
    chain((3, 3, 3, 5)), chain((3, 3, 3, 3, 5)), chain((5, 3, 5)), chain((3, 5, 3)), chain((3, 3, 4, 3, 3)), chain((3, 4, 3, 4)),
    chain((0, 3)), chain((6, 3, 3)), chain((4, 5)), chain((5, 3, 3, 5)), chain((0, 0, 0, 0, 0)),
    Table(oracle.rows_of(3, {(0, 1): 3, (1, 2): 3, (2, 0): 4})), Table(oracle.rows_of(3, {(0, 1): 4, (1, 2): 4, (2, 0): 4})),
    Table(oracle.rows_of(6, {(s, t): 6 for s in range(6) for t in range(s)})),
    Table(oracle.rows_of(6, {(0, 1): 3, (1, 2): 3, (2, 3): 3, (3, 0): 3, (3, 4): 3, (4, 5): 3})),
)


def shuffled(rng, table):
    """The table with its buttons named by chance."""
    return renamed(table, tuple(rng.sample(range(table.size), table.size)))


def random_tables(seed, many):
    rng = chance(seed)
    for _ in range(many):
        kinds_of_ties = rng.choice((oracle.TIES, (2, 2, 2, 3), (2, 2, 3, 4), (2, 2, 2, 0, 3, 5), (3, 5)))
        yield Table(random_ties(rng, rng.randrange(1, 7), kinds_of_ties))


class KindTest(CallCase):
    def check_weighing(self, table):
        """The weighing shows by point 22 that the kinds are right."""
        found = self.call(weighing, table=table)
        self.assertEqual([type(x) for x in found], [Golden] * table.size)
        vector = oracle.pairs(found)
        self.assertEqual([oracle.g_sign(x) for x in vector], [1] * table.size)
        for piece, kind in zip(table.pieces, self.call(kinds, table=table), strict=True):
            for button in piece:
                self.assertEqual(oracle.g_sign(oracle.level(table.ties, vector, button)), SIGNS[kind])

    def test_named_ones(self):
        rng = chance(41)
        for name in LINKS:
            for table in (named(name), shuffled(rng, named(name)), shuffled(rng, named(name))):
                self.assertEqual(self.call(names, table=table), (name,))
                self.assertEqual(kinds(table), ("flat",) if name.startswith("~") else ("finite",))
                self.check_weighing(table)

    def test_wild_ones(self):
        for table in WILD:
            self.assertEqual((kinds(table), names(table)), (("wild",), ("wild",)))
            self.check_weighing(table)

    def test_by_chance(self):
        for table in random_tables(42, 200):
            self.check_weighing(table)
            parts = [part(table, piece) for piece in table.pieces]
            self.assertEqual(names(table), tuple(names(piece)[0] for piece in parts))
            for name, kind in zip(names(table), kinds(table)):
                self.assertEqual(kind, "wild" if name == "wild" else "flat" if name.startswith("~") else "finite")
            ends = set(kinds(table)) == {"finite"}
            self.assertIs(self.call(is_finite, table=table), ends)

    def test_of_several_pieces(self):
        table = beside(beside(named("~A1"), named("H2")), chain((0,)))
        self.assertEqual(kinds(table), ("flat", "finite", "flat"))
        mixed = Table(oracle.rows_of(6, {(0, 3): 3, (1, 4): 0, (4, 5): 3}))
        self.assertEqual((names(mixed), kinds(mixed)), (("A2", "wild", "A1"), ("finite", "wild", "finite")))
        self.check_weighing(mixed)

    def test_rooms(self):
        for table in random_tables(43, 40):
            for many in range(table.size + 1):
                for room in itertools.combinations(range(table.size), many):
                    expected = room == () or is_finite(part(table, room))
                    self.assertIs(self.call(is_finite_room, table=table, room=room), expected)


class FiniteTest(CallCase):
    def test_degrees_and_numbers(self):
        rng = chance(44)
        for name, told in DEGREES.items():
            table = shuffled(rng, named(name))
            many = 1
            for degree in told:
                many *= degree
            self.assertEqual(self.call(degrees, table=table), told)
            self.assertEqual(self.call(how_many, table=table), many)
        both = beside(named("D4"), named("A2"))
        self.assertEqual((degrees(both), how_many(both)), ((2, 2, 3, 4, 4, 6), 192 * 6))

    def test_numbers_by_going_through_all_changes(self):
        for name in ("A1", "A2", "A3", "A4", "B2", "B3", "B4", "D4", "G2", "H2", "H3"):
            layers = oracle.changes_by_length(named(name).ties, 30)
            self.assertEqual(how_many(named(name)), sum(map(len, layers)))
            longest = [layer for layer in layers if layer][-1]
            self.assertEqual([longest[0]], longest)
            self.assertEqual(top(named(name)).word, longest[0])

    def test_tops(self):
        rng = chance(45)
        tables = [shuffled(rng, named(name)) for name in DEGREES]
        for table in tables + [beside(named("H4"), named("G2")), beside(named("B2"), beside(named("A1"), named("H3")))]:
            longest = self.call(top, table=table)
            buttons = tuple(range(table.size))
            self.assertEqual((longest.backs, longest.fronts), (buttons, buttons))
            self.assertEqual(longest.length, sum(degree - 1 for degree in degrees(table)))
            self.assertEqual(longest.inverse(), longest)
        self.assertEqual(top(beside(named("H4"), named("G2"))).length, 66)

    def test_room_tops(self):
        for table in random_tables(46, 40):
            for many in range(table.size + 1):
                for room in itertools.combinations(range(table.size), many):
                    if not is_finite_room(table, room):
                        self.refuses(NotFinite(), room_top, table=table, room=room)
                        continue
                    longest = self.call(room_top, table=table, room=room)
                    self.assertEqual((longest.backs, set(longest.word)), (room, set(room)))
                    within = degrees(part(table, room)) if room else ()
                    self.assertEqual(longest.length, sum(degree - 1 for degree in within))
        self.assertEqual(room_top(named("~A2"), ()), plain(named("~A2")))
        self.assertEqual(room_top(named("~A2"), (0, 2)).word, (0, 2, 0))

    def test_not_finite(self):
        for table in WILD + (named("~G2"), beside(named("A2"), chain((0,)))):
            self.assertIs(is_finite(table), False)
            self.assertEqual(how_many(table), 0)
            for function in (top, degrees):
                self.refuses(NotFinite(), function, table=table)
            self.refuses(NotFinite(), room_top, table=table, room=tuple(range(table.size)))


class ClimbingTest(CallCase):
    def test_never_comes_round(self):
        for table in WILD + tuple(named(name) for name in LINKS if name.startswith("~")):
            word = self.call(climbing, table=table)
            self.assertEqual(word, tuple(range(table.size)))
            most = 60 // len(word)
            self.assertIs(is_least(table, word * most), True)
            self.assertEqual((Change(table, word) ** 64).length, 64 * len(word))

    def test_the_first_piece_that_is_not_finite(self):
        table = Table(oracle.rows_of(6, {(0, 5): 3, (1, 3): 0, (2, 4): 0}))
        self.assertEqual(climbing(table), (1, 3))
        self.assertEqual(climbing(Table(oracle.rows_of(5, {(0, 1): 6, (2, 4): 0, (4, 3): 3}))), (2, 3, 4))

    def test_all_finite(self):
        for name in DEGREES:
            self.refuses(AllFinite(), climbing, table=named(name))
        self.refuses(AllFinite(), climbing, table=beside(named("A2"), named("A2")))


class WrongTest(CallCase):
    def test_wrong_tables(self):
        for value in odd_values():
            for function in (kinds, names, weighing, is_finite, how_many, top, degrees, climbing):
                self.refuses(NotATable(value), function, table=value)
            for function in (is_finite_room, room_top):
                self.refuses(NotATable(value), function, table=value, room=value)

    def test_wrong_rooms(self):
        table = named("~A2")
        for function in (is_finite_room, room_top):
            for value in odd_values(but=(lambda v: type(v) is tuple,)):
                self.refuses(InvalidRoom(None), function, table=table, room=value)
            for room, at in (((3,), 0), ((0, 0), 1), ((0, 2, 1), 2), ((0, 1, 2, 3), 3), ((True,), 0), ((1, "x", 0), 1)):
                self.refuses(InvalidRoom(at), function, table=table, room=room)


if __name__ == "__main__":
    unittest.main()
