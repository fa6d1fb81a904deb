"""Points 7, 8, 9 and the module tables."""

import itertools
import unittest

from oracle import Odd, CallCase, chance, odd_values, pairs, random_ties, rows_of, weight
from wallwalks.errors import (
    InvalidButton, InvalidName, InvalidRenaming, InvalidRoom, InvalidText, InvalidTies, NotATable, TooMany,
)
from wallwalks.tables import Table, beside, chain, likeness, named, part, renamed

# The names of point 8 with their ties, written out by hand: all but these are 2.
LINKS = {
    "A1": (1, {}),
    "A2": (2, {(0, 1): 3}),
    "A3": (3, {(0, 1): 3, (1, 2): 3}),
    "A4": (4, {(0, 1): 3, (1, 2): 3, (2, 3): 3}),
    "A5": (5, {(0, 1): 3, (1, 2): 3, (2, 3): 3, (3, 4): 3}),
    "A6": (6, {(0, 1): 3, (1, 2): 3, (2, 3): 3, (3, 4): 3, (4, 5): 3}),
    "B2": (2, {(0, 1): 4}),
    "B3": (3, {(0, 1): 3, (1, 2): 4}),
    "B4": (4, {(0, 1): 3, (1, 2): 3, (2, 3): 4}),
    "B5": (5, {(0, 1): 3, (1, 2): 3, (2, 3): 3, (3, 4): 4}),
    "B6": (6, {(0, 1): 3, (1, 2): 3, (2, 3): 3, (3, 4): 3, (4, 5): 4}),
    "H2": (2, {(0, 1): 5}),
    "H3": (3, {(0, 1): 3, (1, 2): 5}),
    "H4": (4, {(0, 1): 3, (1, 2): 3, (2, 3): 5}),
    "F4": (4, {(0, 1): 3, (1, 2): 4, (2, 3): 3}),
    "G2": (2, {(0, 1): 6}),
    "D4": (4, {(0, 1): 3, (1, 2): 3, (3, 1): 3}),
    "D5": (5, {(0, 1): 3, (1, 2): 3, (2, 3): 3, (4, 2): 3}),
    "D6": (6, {(0, 1): 3, (1, 2): 3, (2, 3): 3, (3, 4): 3, (5, 3): 3}),
    "E6": (6, {(0, 1): 3, (1, 2): 3, (2, 3): 3, (3, 4): 3, (5, 2): 3}),
    "~A1": (2, {(0, 1): 0}),
    "~A2": (3, {(0, 1): 3, (1, 2): 3, (2, 0): 3}),
    "~A3": (4, {(0, 1): 3, (1, 2): 3, (2, 3): 3, (3, 0): 3}),
    "~A4": (5, {(0, 1): 3, (1, 2): 3, (2, 3): 3, (3, 4): 3, (4, 0): 3}),
    "~A5": (6, {(0, 1): 3, (1, 2): 3, (2, 3): 3, (3, 4): 3, (4, 5): 3, (5, 0): 3}),
    "~B3": (4, {(0, 1): 4, (1, 2): 3, (3, 1): 3}),
    "~B4": (5, {(0, 1): 4, (1, 2): 3, (2, 3): 3, (4, 2): 3}),
    "~B5": (6, {(0, 1): 4, (1, 2): 3, (2, 3): 3, (3, 4): 3, (5, 3): 3}),
    "~C2": (3, {(0, 1): 4, (1, 2): 4}),
    "~C3": (4, {(0, 1): 4, (1, 2): 3, (2, 3): 4}),
    "~C4": (5, {(0, 1): 4, (1, 2): 3, (2, 3): 3, (3, 4): 4}),
    "~C5": (6, {(0, 1): 4, (1, 2): 3, (2, 3): 3, (3, 4): 3, (4, 5): 4}),
    "~D4": (5, {(0, 1): 3, (1, 2): 3, (3, 1): 3, (4, 1): 3}),
    "~D5": (6, {(0, 1): 3, (1, 2): 3, (2, 3): 3, (4, 2): 3, (5, 1): 3}),
    "~F4": (5, {(0, 1): 3, (1, 2): 3, (2, 3): 4, (3, 4): 3}),
    "~G2": (3, {(0, 1): 3, (1, 2): 6}),
}

FULL = rows_of(3, {(0, 1): 3, (1, 2): 4})


def with_row(ties, at, row):
    return ties[:at] + (row,) + ties[at + 1:]


def with_tie(ties, s, t, tie):
    return with_row(ties, s, ties[s][:t] + (tie,) + ties[s][t + 1:])


class TableTest(CallCase):
    def test_size_ties_and_each_tie(self):
        rng = chance(3)
        for size in range(1, 7):
            for _ in range(6):
                ties = random_ties(rng, size)
                table = self.call(Table, ties=ties)
                self.assertEqual((table.size, table.ties), (size, ties))
                for s in range(size):
                    for t in range(size):
                        self.assertEqual(self.call(table.tie, button=s, other_button=t), ties[s][t])
                self.assertIs(bool(table), True)

    def test_weights(self):
        rng = chance(4)
        for _ in range(30):
            ties = random_ties(rng, rng.randrange(1, 7))
            size = len(ties)
            expected = tuple(tuple(weight(ties, s, t) for t in range(size)) for s in range(size))
            self.assertEqual(tuple(pairs(row) for row in Table(ties).weights), expected)

    def test_pieces(self):
        rng = chance(5)
        for _ in range(60):
            ties = random_ties(rng, rng.randrange(1, 7), (2, 2, 2, 2, 0, 3, 5))
            size = len(ties)
            lots = [{s} for s in range(size)]
            for s in range(size):
                for t in range(s):
                    if ties[s][t] != 2 and lots[s] is not lots[t]:
                        joined = lots[s] | lots[t]
                        for u in joined:
                            lots[u] = joined
            expected = sorted({tuple(sorted(lot)) for lot in lots})
            table = Table(ties)
            self.assertEqual(table.pieces, tuple(expected))
            self.assertIs(table.is_joined, len(expected) == 1)
        self.assertEqual(Table(rows_of(4, {(3, 0): 3})).pieces, ((0, 3), (1,), (2,)))

    def test_text(self):
        self.assertEqual(Table(((1,),)).text, "table: 1")
        self.assertEqual(Table(((1, 0), (0, 1))).text, "table: 1 0; 0 1")
        rng = chance(6)
        for _ in range(40):
            table = Table(random_ties(rng, rng.randrange(1, 7)))
            self.assertEqual(self.call(Table.read, text=table.text), table)
        self.assertEqual(Table(((1,),)).read("table: 1 3; 3 1"), chain((3,)))

    def test_wrong_texts(self):
        wrong = (
            "", "table:", "table: ", "table:1", "Table: 1", "table: 2", "table: 0", "table: 1;", "table: 1 3;3 1",
            "table: 1 3; 3 1;", "table: 1 3; 3 1; ", "table: 1  3; 3 1", "table: 1 3 ; 3 1", " table: 1", "table: 1 ",
            "table: 1 3; 4 1", "table: 1 1; 1 1", "table: 1 7; 7 1", "table: 1 03; 03 1", "table: 1 -3; -3 1",
            "table: 1 3; 3", "table: 1; 1", "table: 1 3 3; 3 1 3", "table: 1 3", "table: 1,3;3,1", "table: +1",
            "table: " + "; ".join(" ".join("1" if s == t else "2" for t in range(7)) for s in range(7)),
        )
        for text in wrong:
            self.refuses(InvalidText(text), Table.read, text=text)
        for value in odd_values():
            self.refuses(InvalidText(value), Table.read, text=value)

    def test_wrong_ties(self):
        for value in odd_values(but=(lambda v: type(v) is tuple and len(v) in range(1, 7),)):
            self.refuses(InvalidTies(None), Table, ties=value)
        self.refuses(InvalidTies(None), Table, ties=rows_of(7, {}))
        self.refuses(InvalidTies(None), Table, ties=[[1]])
        for value in odd_values() + [(2,), (True,), (1, 2), (0,)]:
            self.refuses(InvalidTies(0), Table, ties=(value,))
        for at in range(3):
            for value in odd_values() + [FULL[at][:2], FULL[at] + (2,), list(FULL[at])]:
                self.refuses(InvalidTies(at), Table, ties=with_row(FULL, at, value))
            for t in range(3):
                for tie in [True, 7, -1, "2", None, Odd(), (2,)] + ([0, 2, 3] if at == t else [1]):
                    self.refuses(InvalidTies(at), Table, ties=with_tie(FULL, at, t, tie))
        self.refuses(InvalidTies(1), Table, ties=with_tie(FULL, 0, 1, 4))
        self.refuses(InvalidTies(2), Table, ties=with_tie(FULL, 0, 2, 4))
        self.refuses(InvalidTies(2), Table, ties=with_tie(FULL, 2, 1, 3))
        self.refuses(InvalidTies(1), Table, ties=with_row(with_tie(FULL, 0, 1, 4), 2, "x"))

    def test_wrong_buttons(self):
        table = Table(FULL)
        for value in odd_values(but=(lambda v: type(v) is int and 0 <= v < 3,)) + [3]:
            self.refuses(InvalidButton(value), table.tie, button=value, other_button=0)
            self.refuses(InvalidButton(value), table.tie, button=0, other_button=value)
        first, second = 9, 8
        self.refuses(InvalidButton(first), table.tie, button=first, other_button=second)

    def test_equal_exactly_if_the_ties_are(self):
        some = [Table(((1, k), (k, 1))) for k in (0, 2, 3, 4, 5, 6)] + [Table(((1,),)), Table(FULL)]
        for i, table in enumerate(some):
            for j, other in enumerate(some):
                self.assertIs(table == other, i == j)
                self.assertIs(table != other, i != j)
            self.assertEqual(table, Table(table.ties))
            for value in odd_values() + [table.ties]:
                self.assertIs(table == value, False)
                self.assertIs(table != value, True)


class MakingTest(CallCase):
    def test_chain(self):
        self.assertEqual(self.call(chain, ties=()), Table(((1,),)))
        for size in range(1, 6):
            for ties in itertools.product((0, 2, 5), repeat=size):
                links = {(s, s + 1): tie for s, tie in enumerate(ties)}
                self.assertEqual(self.call(chain, ties=ties).ties, rows_of(size + 1, links))

    def test_wrong_chains(self):
        for value in odd_values(but=(lambda v: type(v) is tuple,)) + [(3,) * 6, (1,) * 7, [3]]:
            self.refuses(InvalidTies(None), chain, ties=value)
        for value in odd_values() + [1]:
            for at in range(5):
                self.refuses(InvalidTies(at), chain, ties=(3,) * at + (value,) + (1,) * (4 - at))

    def test_named(self):
        for name, (size, links) in LINKS.items():
            with self.subTest(name=name):
                self.assertEqual(self.call(named, name=name).ties, rows_of(size, links))

    def test_wrong_names(self):
        wrong = [f"{head}{n}" for head in ("", "~") for head in [head + c for c in "ABCDEFGHI"] for n in range(9)]
        for name in [name for name in wrong if name not in LINKS] + ["a2", "A 2", "A02", "~", "A", "~~A2", "A2 "]:
            self.refuses(InvalidName(name), named, name=name)
        for value in odd_values():
            self.refuses(InvalidName(value), named, name=value)

    def test_no_two_named_ones_are_alike(self):
        for name, other in itertools.permutations(LINKS, 2):
            self.assertIsNone(likeness(named(name), named(other)))

    def test_part(self):
        rng = chance(7)
        for _ in range(20):
            ties = random_ties(rng, rng.randrange(1, 7))
            size = len(ties)
            for many in range(1, size + 1):
                for room in itertools.combinations(range(size), many):
                    expected = tuple(tuple(ties[s][t] for t in room) for s in room)
                    self.assertEqual(self.call(part, table=Table(ties), room=room).ties, expected)

    def test_wrong_parts(self):
        table = Table(FULL)
        for value in odd_values():
            self.refuses(NotATable(value), part, table=value, room="x")
        for value in odd_values(but=(lambda v: type(v) is tuple and v != (),)):
            self.refuses(InvalidRoom(None), part, table=table, room=value)
        for room, at in (
            ((3,), 0), ((0, 0), 1), ((1, 0), 1), ((0, 1, 2, 2), 3), ((0, 2, 1, "x"), 2), ((0, True), 1),
            ((-1,), 0), ((0, "x", 9), 1), ((False,), 0), ((0, 1, 2, 3), 3), (((0,),), 0), ((1, None), 1),
        ):
            self.refuses(InvalidRoom(at), part, table=table, room=room)

    def test_beside(self):
        for first, second in itertools.product(("A1", "B2", "~A2", "D4", "A5", "E6"), repeat=2):
            table, other = named(first), named(second)
            many = table.size + other.size
            if many > 6:
                self.refuses(TooMany(many), beside, table=table, other=other)
                continue
            made = self.call(beside, table=table, other=other)
            for s in range(many):
                for t in range(many):
                    if s < table.size and t < table.size:
                        expected = table.tie(s, t)
                    elif s >= table.size and t >= table.size:
                        expected = other.tie(s - table.size, t - table.size)
                    else:
                        expected = 2
                    self.assertEqual(made.tie(s, t), expected)
        for value in odd_values():
            self.refuses(NotATable(value), beside, table=value, other=3)
            self.refuses(NotATable(value), beside, table=table, other=value)

    def test_renamed(self):
        rng = chance(8)
        for _ in range(30):
            table = Table(random_ties(rng, rng.randrange(1, 7)))
            renaming = tuple(rng.sample(range(table.size), table.size))
            made = self.call(renamed, table=table, renaming=renaming)
            for s in range(table.size):
                for t in range(table.size):
                    self.assertEqual(made.tie(renaming[s], renaming[t]), table.tie(s, t))

    def test_wrong_renamings(self):
        table = Table(FULL)
        for value in odd_values() + [(0, 1), (0, 1, 1), (1, 2, 3), (0, 1, 2, 3), (2, True, 0), [0, 1, 2], (0, 1, -1)]:
            self.refuses(InvalidRenaming(value), renamed, table=table, renaming=value)
        for value in [("0", 1, 2), (0, 1, None), (0, 1, Odd()), ((0,), 1, 2)]:
            self.refuses(InvalidRenaming(value), renamed, table=table, renaming=value)
        for value in odd_values():
            self.refuses(NotATable(value), renamed, table=value, renaming=value)
            self.refuses(NotATable(value), likeness, table=value, other=table)
            self.refuses(NotATable(value), likeness, table=value, other=[])
            self.refuses(NotATable(value), likeness, table=table, other=value)

    def test_likeness_is_the_first_renaming(self):
        rng = chance(9)
        for _ in range(60):
            table = Table(random_ties(rng, rng.randrange(1, 6), rng.choice(((2, 3), (2, 2, 3, 4), (0, 5), (2,)))))
            other = rng.choice((table, renamed(table, tuple(rng.sample(range(table.size), table.size)))))
            if rng.randrange(4) == 0:
                other = Table(random_ties(rng, table.size, (2, 3)))
            fits = [r for r in itertools.permutations(range(table.size)) if renamed(table, r) == other]
            self.assertEqual(self.call(likeness, table=table, other=other), min(fits, default=None))
        self.assertIsNone(likeness(named("A2"), named("A3")))


if __name__ == "__main__":
    unittest.main()
