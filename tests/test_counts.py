"""Points 25, 26 and the module counts."""

import itertools
import unittest
from fractions import Fraction

import oracle
from oracle import CallCase, chance, odd_values, random_ties
from test_ends import DEGREES, WILD
from test_tables import LINKS
from wallwalks.counts import counts, growth, how_many_at, how_many_by, room_polynomial, speed
from wallwalks.ends import how_many, is_finite, is_finite_room
from wallwalks.errors import InvalidNumber, InvalidRoom, NotATable, NotFinite
from wallwalks.tables import Table, beside, chain, named, part

RING = named("~A2")


def times(left, right):
    made = [0] * (len(left) + len(right) - 1)
    for i, a in enumerate(left):
        for j, b in enumerate(right):
            made[i + j] += a * b
    return tuple(made)


def by_degrees(degrees):
    made = (1,)
    for degree in degrees:
        made = times(made, (1,) * degree)
    return made


def shared_degree(left, right):
    """The degree of the greatest common part of two polynomials, over the ratios."""
    left, right = [[Fraction(a) for a in poly] for poly in (left, right)]
    while right:
        while len(left) >= len(right):
            factor = left[-1] / right[-1]
            for i, a in enumerate(reversed(right)):
                left[-1 - i] -= factor * a
            while left and left[-1] == 0:
                left.pop()
        left, right = right, left
    return len(left) - 1


def value_at(poly, q):
    return sum(a * q ** i for i, a in enumerate(poly))


def some_tables(seed, many, most=6):
    rng = chance(seed)
    for _ in range(many):
        kinds = rng.choice((oracle.TIES, (2, 3), (2, 2, 3, 4), (0, 3, 5)))
        yield Table(random_ties(rng, rng.randrange(1, most + 1), kinds))


class RoomPolynomialTest(CallCase):
    def test_by_going_through_all_changes(self):
        for name in ("A1", "A3", "A4", "B3", "B4", "D4", "G2", "H2", "H3"):
            table = named(name)
            layers = [len(layer) for layer in oracle.changes_by_length(table.ties, 30) if layer]
            self.assertEqual(self.call(room_polynomial, table=table, room=tuple(range(table.size))), tuple(layers))

    def test_by_degrees(self):
        for name, degrees in DEGREES.items():
            self.assertEqual(room_polynomial(named(name), tuple(range(named(name).size))), by_degrees(degrees))
        self.assertEqual(room_polynomial(RING, (0, 2)), (1, 2, 2, 1))
        self.assertEqual(room_polynomial(RING, ()), (1,))
        self.assertEqual(room_polynomial(chain((0, 5, 0)), (0, 3)), (1, 2, 1))

    def test_refusals(self):
        self.refuses(NotFinite(), room_polynomial, table=RING, room=(0, 1, 2))
        self.refuses(InvalidRoom(1), room_polynomial, table=RING, room=(2, 1))
        for value in odd_values():
            self.refuses(NotATable(value), room_polynomial, table=value, room=value)
        for value in odd_values(but=(lambda v: type(v) is tuple,)):
            self.refuses(InvalidRoom(None), room_polynomial, table=RING, room=value)


class GrowthTest(CallCase):
    def test_counts_by_going_through_all_changes(self):
        for table in list(some_tables(51, 30, 4)) + [named(name) for name in LINKS if named(name).size < 5]:
            most = 9 if table.size < 4 else 6
            layers = tuple(len(layer) for layer in oracle.changes_by_length(table.ties, most))
            self.assertEqual(self.call(counts, table=table, many=most + 1), layers)
            for length, many in enumerate(layers):
                self.assertEqual(self.call(how_many_at, table=table, length=length), many)

    def test_the_fraction_of_point_25(self):
        for table in list(some_tables(52, 25)) + list(WILD) + [named("~A5"), beside(named("~A2"), named("B3"))]:
            if is_finite(table):
                continue
            top, bottom = self.call(growth, table=table)
            total = {q: Fraction(0) for q in (Fraction(2), Fraction(3, 7), Fraction(-5, 3), Fraction(11))}
            for many in range(table.size + 1):
                for room in itertools.combinations(range(table.size), many):
                    if is_finite_room(table, room):
                        for q in total:
                            total[q] += (-1) ** many / value_at(room_polynomial(table, room), q)
            for q, expected in total.items():
                self.assertEqual(value_at(bottom, 1 / q) / value_at(top, 1 / q), expected)

    def test_lowest_terms(self):
        for table in list(some_tables(53, 40)) + list(WILD) + [named(name) for name in LINKS]:
            top, bottom = growth(table)
            self.assertEqual((top[0], bottom[0]), (1, 1))
            self.assertTrue(top[-1] and bottom[-1])
            self.assertEqual({type(a) for a in top + bottom}, {int})
            self.assertEqual(shared_degree(top, bottom), 0)

    def test_known_ones(self):
        self.assertEqual(growth(chain((0,))), ((1, 1), (1, -1)))
        self.assertEqual(growth(beside(chain((0,)), chain((0,)))), ((1, 2, 1), (1, -2, 1)))
        self.assertEqual(growth(named("B3")), (by_degrees((2, 4, 6)), (1,)))
        # The flat tables: the finite one's polynomial over the product of 1 - q ** (degree - 1) (Bott).
        for flat, finite in (("~A3", "A3"), ("~B4", "B4"), ("~C3", "B3"), ("~D5", "D5"), ("~F4", "F4"), ("~G2", "G2")):
            above, below = by_degrees(DEGREES[finite]), (1,)
            for degree in DEGREES[finite]:
                below = times(below, (1,) + (0,) * (degree - 2) + (-1,))
            top, bottom = growth(named(flat))
            self.assertEqual(times(top, below), times(above, bottom))

    def test_a_table_of_pieces(self):
        table = beside(RING, named("A3"))
        top, bottom = growth(table)
        alone = growth(RING)
        self.assertEqual(times(top, alone[1]), times(times(alone[0], by_degrees((2, 3, 4))), bottom))

    def test_up_to_the_greatest_length(self):
        for table in (RING, WILD[0], WILD[-1], named("A3"), beside(RING, chain((0,)))):
            many = self.call(counts, table=table, many=200)
            self.assertEqual(len(many), 200)
            self.assertEqual(tuple(how_many_at(table, k) for k in range(0, 200, 33)), many[::33])
            top, bottom = growth(table)
            further = sum(-bottom[i] * many[200 - i] for i in range(1, len(bottom)))
            self.assertEqual(how_many_at(table, 200), further)
        self.assertEqual(counts(named("A2"), 6), (1, 2, 2, 1, 0, 0))
        self.assertEqual(counts(RING, 1), (1,))
        self.assertEqual(how_many_at(RING, 200), 600)

    def test_wrong_arguments(self):
        for value in odd_values():
            for function, rest in (
                (growth, {}), (counts, {"many": 0}), (how_many_at, {"length": -1}), (speed, {}),
                (how_many_by, {"length": -1, "modulus": 0}),
            ):
                self.refuses(NotATable(value), function, table=value, **rest)
        for value in odd_values(but=(lambda v: type(v) is int and 0 < v <= 200,)) + [0, 201]:
            self.refuses(InvalidNumber(value), counts, table=RING, many=value)
        for value in odd_values(but=(lambda v: type(v) is int and 0 <= v <= 200,)) + [201]:
            self.refuses(InvalidNumber(value), how_many_at, table=RING, length=value)


class FarTest(CallCase):
    def test_near_ones(self):
        for table in list(some_tables(54, 10)) + [WILD[0], WILD[3], named("A1"), named("H4"), RING]:
            near = counts(table, 120)
            for length in (0, 1, 2, 3, 31, 64, 65, 119):
                for modulus in (2, 97, 10 ** 6):
                    found = self.call(how_many_by, table=table, length=length, modulus=modulus)
                    self.assertEqual(found, near[length] % modulus)

    def test_far_ones(self):
        for length in (10 ** 18, 10 ** 18 - 1, 999999999999999989, 12345678910111213):
            for modulus in (2, 1000, 999983, 10 ** 6):
                self.assertEqual(how_many_by(RING, length, modulus), 3 * length % modulus)
                self.assertEqual(how_many_by(chain((0,)), length, modulus), 2 % modulus)
                self.assertEqual(how_many_by(named("H4"), length, modulus), 0)
                free = Table(oracle.rows_of(6, {(s, t): 0 for s in range(6) for t in range(s)}))
                self.assertEqual(how_many_by(free, length, modulus), 6 * pow(5, length - 1, modulus) % modulus)

    def test_by_the_recurrence_read_as_rows(self):
        modulus, length = 99991, 10 ** 18 - 7
        for table in (WILD[0], WILD[3], WILD[11], chain((0, 3, 3)), named("~C3")):
            top, bottom = growth(table)
            size = len(bottom) - 1
            start = max(len(top), size)
            near = counts(table, start + size)
            power = [[int(i == j) for j in range(size)] for i in range(size)]
            base = [[-a for a in bottom[1:]]] + [[int(j == i) for j in range(size)] for i in range(size - 1)]
            left = length - (start + size - 1)
            while left:
                if left % 2:
                    power = [[sum(a * b for a, b in zip(row, column)) % modulus for column in zip(*base)] for row in power]
                base = [[sum(a * b for a, b in zip(row, column)) % modulus for column in zip(*base)] for row in base]
                left //= 2
            expected = sum(a * b for a, b in zip(power[0], near[::-1])) % modulus
            self.assertEqual(how_many_by(table, length, modulus), expected)

    def test_wrong_arguments(self):
        for value in odd_values(but=(lambda v: type(v) is int and 0 <= v <= 10 ** 18,)) + [10 ** 18 + 1]:
            self.refuses(InvalidNumber(value), how_many_by, table=RING, length=value, modulus="x")
        for value in odd_values(but=(lambda v: type(v) is int and 2 <= v <= 10 ** 6,)) + [1, 0, 10 ** 6 + 1]:
            self.refuses(InvalidNumber(value), how_many_by, table=RING, length=3, modulus=value)


class SpeedTest(CallCase):
    def test_speeds(self):
        for name in DEGREES:
            self.assertEqual(self.call(speed, table=named(name)), ("ends", how_many(named(name))))
        for name in LINKS:
            if name.startswith("~"):
                self.assertEqual(speed(named(name)), ("power", named(name).size - 1))
        for table in WILD:
            self.assertEqual(speed(table), ("faster", 0))
        self.assertEqual(speed(beside(RING, named("A3"))), ("power", 2))
        self.assertEqual(speed(beside(RING, RING)), ("power", 4))
        self.assertEqual(speed(beside(chain((0,)), beside(named("H2"), chain((0,))))), ("power", 2))
        self.assertEqual(speed(beside(RING, chain((0, 3)))), ("faster", 0))
        self.assertEqual(speed(part(chain((0, 3)), (0, 2))), ("ends", 4))


if __name__ == "__main__":
    unittest.main()
