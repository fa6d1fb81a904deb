"""The module certificates: claims that are so, with certificates that the checker accepts."""

import itertools
import unittest

import oracle
from oracle import CallCase, chance, odd_values, random_ties, random_word
from wallwalks import certificates
from wallwalks.carrying import carrying, kin
from wallwalks.certificates import (
    certify_balanced, certify_carried, certify_continuation, certify_crossing, certify_finite, certify_front, certify_kind,
    certify_least, certify_length, certify_meeting, certify_mirrors, certify_order, certify_quotients, certify_rooms_carried,
    certify_same, certify_settled, certify_small, certify_top, certify_under, certify_words,
)
from wallwalks.changes import Change, plain
from wallwalks.checker import accepts
from wallwalks.crossings import crosses
from wallwalks.ends import is_finite, is_finite_room, kinds, room_top, top
from wallwalks.errors import (
    InvalidNumber, InvalidRoom, InvalidWord, NotAChange, NotAFlip, NotAQuotient, NotATable, NotAWall, NotFinite, OtherTable,
    TooMany,
)
from wallwalks.fronts import common_front, facing_pair, least_continuation
from wallwalks.machines import walls_small
from wallwalks.pairs import balanced
from wallwalks.positives import Positive
from wallwalks.quotients import Quotient, quotient_of
from wallwalks.subwords import is_under
from wallwalks.tables import Table, beside, chain, named
from wallwalks.turns import carried_by, carrier, mirrors, order_of
from wallwalks.undoing import is_opposite
from wallwalks.walls import Wall, meeting, wall_turned

RING = named("~A2")
PAIR = chain((0,))
FINITE = tuple(named(name) for name in ("A1", "A2", "A3", "B3", "G2", "H2", "H3", "D4")) + (
    chain((2,)), beside(named("A2"), named("B2")),
)
ENDLESS = tuple(named(name) for name in ("~A1", "~A2", "~A3", "~B3", "~C2", "~D4", "~G2")) + (
    chain((0, 3)), chain((5, 5)), chain((3, 0, 3)), chain((6, 4)), beside(PAIR, named("A2")),
)
TABLES = FINITE + ENDLESS


def rooms_of(size):
    return [room for many in range(size + 1) for room in itertools.combinations(range(size), many)]


def some_tables(seed, many, most=5):
    rng = chance(seed)
    for _ in range(many):
        kinds_told = rng.choice((oracle.TIES, (2, 3), (2, 3, 4, 5), (0, 3), (2, 2, 3, 6)))
        yield rng, Table(random_ties(rng, rng.randrange(1, most + 1), kinds_told))


class CertifyCase(CallCase):
    def made(self, function, **arguments):
        """The claim and the certificate, which is accepted; of a claim nothing else is."""
        claim, certificate = self.call(function, **arguments)
        self.assertIs(type(claim), tuple)
        self.assertIs(self.call(accepts, claim=claim, certificate=certificate), True, claim)
        table = next(iter(arguments.values()))
        table = table if isinstance(table, Table) else table.table
        self.assertEqual(claim[1], table.text)
        self.assertIs(accepts(claim, [certificate]), False)
        self.assertIs(accepts(claim + ((),), certificate), False)
        return claim, certificate


class WordTest(CertifyCase):
    def test_same_and_unlike(self):
        names = []
        for rng, table in some_tables(291, 150):
            word = random_word(rng, table.size, rng.randrange(13))
            other = random_word(rng, table.size, rng.randrange(13))
            if rng.randrange(2):
                other = Change(table, word).word
            claim, _ = self.made(certify_same, table=table, word=word, other_word=other)
            same = oracle.images(table.ties, word) == oracle.images(table.ties, other)
            self.assertEqual(claim, ("same" if same else "unlike", table.text, word, other))
            names.append(claim[0])
        self.assertTrue(30 < names.count("same") < 120)

    def test_same_with_long_words(self):
        word = (0, 1) * 30
        self.assertEqual(self.made(certify_same, table=PAIR, word=word, other_word=word), (("same", PAIR.text, word, word), ()))
        claim, button = self.made(certify_same, table=PAIR, word=word, other_word=word[:59])
        self.assertEqual(claim[0], "unlike")
        self.assertIn(button, (0, 1))
        for word, other, longer in (((0,) * 13, (0,), 13), ((0,) * 60, (1, 1), 60), ((), (2,) * 14, 14)):
            self.refuses(TooMany(longer), certify_same, table=RING, word=word, other_word=other)
        self.made(certify_same, table=RING, word=(2,) * 12, other_word=())

    def test_least_and_spare(self):
        names = []
        for rng, table in some_tables(292, 150):
            word = random_word(rng, table.size, rng.choice((3, 6, 10)))
            claim, certificate = self.made(certify_least, table=table, word=word)
            least = len(oracle.first_word(table.ties, word)) == len(word)
            self.assertEqual(claim, ("least" if least else "spare", table.text, word))
            names.append(claim[0])
            if not least:
                i, j = certificate
                self.assertEqual(oracle.images(table.ties, word[:i] + word[i + 1:j] + word[j + 1:]), oracle.images(table.ties, word))
        self.assertTrue(20 < names.count("least") < 130)
        self.assertEqual(certify_least(RING, (0, 1, 2) * 20), (("least", RING.text, (0, 1, 2) * 20), ()))

    def test_lengths(self):
        for rng, table in some_tables(293, 100):
            word = random_word(rng, table.size, rng.randrange(13))
            claim, certificate = self.made(certify_length, table=table, word=word)
            first = oracle.first_word(table.ties, word) if len(word) < 9 else Change(table, word).word
            self.assertEqual(claim, ("length", table.text, word, len(first)))
            self.assertEqual(len(certificate[0]), len(first))
        self.made(certify_length, table=RING, word=(0, 1, 2) * 20)
        self.refuses(TooMany(13), certify_length, table=RING, word=(0,) * 13)
        self.refuses(TooMany(60), certify_length, table=RING, word=(1,) * 60)

    def test_finite_and_kinds(self):
        for table in TABLES + tuple(table for _, table in some_tables(294, 40, 6)):
            claim, _ = self.made(certify_finite, table=table)
            self.assertEqual(claim, ("finite" if is_finite(table) else "not finite", table.text))
            for piece, kind in zip(table.pieces, kinds(table)):
                claim, _ = self.made(certify_kind, table=table, piece=piece)
                self.assertEqual(claim, ("kind", table.text, piece, kind))
        for name in ("H4", "E6", "B6", "~C5", "~F4", "~D5"):
            self.made(certify_finite, table=named(name))
        self.made(certify_finite, table=beside(named("H4"), named("G2")))

    def test_what_is_no_piece(self):
        table = chain((3, 2, 4))
        for room in ((), (0,), (1,), (0, 1, 2), (1, 2), (0, 1, 2, 3), (2,)):
            self.refuses(InvalidRoom(None), certify_kind, table=table, piece=room)
        for room, at in ((((0, 4)), 1), ((1, 0), 1), ((True,), 0), ([0, 1], None), (None, None)):
            self.refuses(InvalidRoom(at), certify_kind, table=table, piece=room)
        self.assertEqual(certify_kind(table, (2, 3))[0][3], "finite")


class SideTest(CertifyCase):
    def test_crossings(self):
        names = []
        for rng, table in some_tables(295, 150):
            change = Change(table, random_word(rng, table.size, rng.randrange(12)))
            wall = Wall(table, random_word(rng, table.size, rng.randrange(4)), rng.randrange(table.size))
            claim, _ = self.made(certify_crossing, change=change, wall=wall)
            name = "crosses" if crosses(change, wall) else "does not cross"
            self.assertEqual(claim, (name, table.text, change.word, *wall.road))
            names.append(name)
        self.assertTrue(20 < names.count("crosses") < 130)

    def test_meetings(self):
        found = set()
        for rng, table in some_tables(296, 200, 4):
            walls = [Wall(table, random_word(rng, table.size, rng.randrange(4)), rng.randrange(table.size)) for _ in range(2)]
            claim, _ = self.made(certify_meeting, wall=walls[0], other=walls[1])
            self.assertEqual(claim, ("meeting", table.text, *walls[0].road, *walls[1].road, meeting(*walls)))
            found.add(claim[-1])
        self.assertEqual(found, {0, 1, 2, 3, 4, 5, 6})

    def test_small_walls(self):
        for table in TABLES:
            claim, certificate = self.made(certify_small, table=table)
            self.assertEqual(claim, ("small walls", table.text, len(walls_small(table))))
            self.assertEqual(certificate, tuple(wall.road for wall in walls_small(table)))
        self.made(certify_small, table=named("H4"))
        for name in ("~A5", "~D5", "E6"):
            try:
                self.made(certify_small, table=named(name))
            except TooMany:
                self.refuses(TooMany(60), certify_small, table=named(name))
        self.refuses(TooMany(60), certify_small, table=beside(named("H4"), named("A1")))

    def test_fronts_and_continuations(self):
        names = []
        for rng, table in some_tables(297, 200, 4):
            change, other = (Change(table, random_word(rng, table.size, rng.randrange(6))) for _ in range(2))
            claim, _ = self.made(certify_front, change=change, other=other)
            self.assertEqual(claim, ("greatest front", table.text, change.word, other.word, common_front(change, other).word))
            most = rng.choice((0, 5, 12, 60))
            further, pair = least_continuation(change, other, most), facing_pair(change, other)
            if further is None and pair is None:
                self.assertIsNone(self.call(certify_continuation, change=change, other=other, most=most))
                names.append(None)
                continue
            claim, certificate = self.made(certify_continuation, change=change, other=other, most=most)
            names.append(claim[0])
            if further is not None:
                self.assertEqual(claim, ("least continuation", table.text, change.word, other.word, further.word))
            else:
                self.assertEqual(claim, ("no continuation", table.text, change.word, other.word))
                self.assertEqual(certificate, pair[0].road + pair[1].road)
        self.assertGreater(min(names.count(name) for name in (None, "least continuation", "no continuation")), 15)

    def test_under(self):
        names = []
        for rng, table in some_tables(298, 150):
            change, other = Change(table, random_word(rng, table.size, rng.randrange(5))), Change(table, random_word(rng, table.size, 9))
            claim, _ = self.made(certify_under, change=change, other=other)
            name = "under" if is_under(change, other) else "not under"
            self.assertEqual(claim, (name, table.text, change.word, other.word))
            names.append(name)
        self.assertTrue(30 < names.count("under") < 130)


class RoomTest(CertifyCase):
    def test_rooms_carried(self):
        names = []
        for table in TABLES + (named("E6"), named("~D5"), chain((3, 0, 3, 5, 3))):
            rng = chance(299)
            rooms = rooms_of(table.size)
            for _ in range(12):
                room = rng.choice(rooms)
                other = rng.choice([other for other in rooms if len(other) == len(room)])
                claim, certificate = self.made(certify_rooms_carried, table=table, room=room, other_room=other)
                carried = carrying(table, room, other) is not None
                self.assertEqual(claim, ("rooms carried" if carried else "rooms not carried", table.text, room, other))
                names.append(claim[0])
                if not carried:
                    self.assertEqual({held for held, _ in certificate}, set(kin(table, room)))
        self.assertTrue(60 < names.count("rooms carried") < len(names) - 60)

    def test_tops(self):
        for table in TABLES:
            for room in rooms_of(table.size):
                if is_finite_room(table, room):
                    claim, certificate = self.made(certify_top, table=table, room=room)
                    self.assertEqual((claim, certificate), (("top", table.text, room, room_top(table, room).word), ()))
                else:
                    self.refuses(NotFinite(), certify_top, table=table, room=room)
        # The longest tops have more than 60 buttons.
        longest = beside(named("H4"), named("G2"))
        self.assertEqual(len(self.made(certify_top, table=longest, room=(0, 1, 2, 3, 4, 5))[0][3]), 66)
        self.assertEqual(len(self.made(certify_finite, table=longest)[1]), 66)


class TurnTest(CertifyCase):
    def test_words(self):
        names = []
        for rng, table in some_tables(300, 150, 4):
            word = random_word(rng, table.size, rng.randrange(13))
            other = Positive(table, word).word if rng.randrange(2) else random_word(rng, table.size, len(word))
            claim, certificate = self.made(certify_words, table=table, word=word, other_word=other)
            same = Positive(table, word) == Positive(table, other)
            self.assertEqual(claim, ("one positive" if same else "two positives", table.text, word, other))
            names.append(claim[0])
            if not same:
                self.assertEqual(len(certificate), 4)
        self.assertTrue(30 < names.count("one positive") < 120)
        for word, other in (((0,) * 13, (0,) * 13), ((0,), (1,) * 13), ((0,) * 13, (1,) * 3), ((0, 1) * 30, (1,))):
            self.refuses(TooMany(max(len(word), len(other))), certify_words, table=RING, word=word, other_word=other)

    def test_quotients(self):
        found = []
        for table in FINITE:
            rng = chance(301)
            for _ in range(8):
                x, y, z = (Positive(table, random_word(rng, table.size, rng.randrange(5))) for _ in range(3))
                left, right = Quotient(x, y), Quotient(x * z, y * z) if rng.randrange(2) else Quotient(y, x)
                expected = left == right
                found.append(expected)
                if not expected:
                    self.assertIsNone(self.call(certify_quotients, quotient=left, other=right))
                    continue
                claim, _ = self.made(certify_quotients, quotient=left, other=right)
                words = (left.dividend.word, left.divisor.word)
                self.assertEqual(claim, ("one quotient", table.text, *words, *words))
        self.assertTrue(20 < sum(found) < len(found) - 20)
        long_one = quotient_of(named("A1"), (1,) * 60)
        self.made(certify_quotients, quotient=long_one, other=long_one)
        longer = long_one * quotient_of(named("A1"), (1,))
        self.refuses(TooMany(60), certify_quotients, quotient=longer, other=longer)
        self.refuses(TooMany(60), certify_quotients, quotient=longer.inverse(), other=longer.inverse())
        self.assertIsNone(certify_quotients(longer, long_one))

    def test_orders(self):
        found = set()
        for rng, table in some_tables(302, 250, 3):
            change = Change(table, random_word(rng, table.size, rng.randrange(8)))
            claim, _ = self.made(certify_order, change=change)
            order = order_of(change)
            told = ("order", table.text, change.word, order) if order else ("endless order", table.text, change.word)
            self.assertEqual(claim, told)
            found.add(order)
        self.assertTrue({0, 1, 2, 3, 4, 6} <= found)
        table = beside(beside(named("H2"), named("B2")), named("A2"))
        self.assertEqual(self.made(certify_order, change=Change(table, tuple(range(6))))[0][3], 60)

    def test_mirrors(self):
        for table in FINITE + (named("E6"), named("B6"), named("H4")):
            rng = chance(303)
            for _ in range(8):
                change = Change(table, random_word(rng, table.size, rng.randrange(15)))
                claim, certificate = self.made(certify_mirrors, change=change)
                self.assertEqual(claim, ("mirrors", table.text, change.word, len(mirrors(change))))
                self.assertEqual(len(certificate), claim[3])
        for table in ENDLESS:
            self.refuses(NotFinite(), certify_mirrors, change=plain(table))

    def test_carried(self):
        found = []
        for table in FINITE:
            rng = chance(304)
            for _ in range(10):
                change, other = (Change(table, random_word(rng, table.size, rng.randrange(9))) for _ in range(2))
                other = carried_by(change, other) if rng.randrange(2) else other
                expected = carrier(change, other) is not None
                found.append(expected)
                if not expected:
                    self.assertIsNone(self.call(certify_carried, change=change, other=other))
                    continue
                claim, _ = self.made(certify_carried, change=change, other=other)
                self.assertEqual(claim, ("carried", table.text, change.word, other.word))
        self.assertTrue(20 < sum(found) < len(found) - 20)

    def test_settled(self):
        for table in TABLES:
            rng = chance(305)
            for _ in range(6):
                room = rng.choice([room for room in rooms_of(table.size) if is_opposite(table, room)])
                flip = carried_by(room_top(table, room), Change(table, random_word(rng, table.size, rng.randrange(7))))
                claim, _ = self.made(certify_settled, change=flip)
                self.assertEqual(claim[:3], ("settled", table.text, flip.word))
                self.assertTrue(is_opposite(table, claim[3]))

    def test_balanced(self):
        for table in FINITE[:-1]:
            rng = chance(306)
            for _ in range(3):
                change = Change(table, random_word(rng, table.size, rng.randrange(8)))
                claim, _ = self.made(certify_balanced, change=change)
                terms = tuple((held.word, laurent.text) for held, laurent in balanced(change).terms)
                self.assertEqual(claim, ("balanced", table.text, change.word, terms))
        self.made(certify_balanced, change=Change(named("A4"), (1, 2, 0, 1, 3, 2)))


class LongTest(CertifyCase):
    """Words of claims with more than 60 buttons are refused, behind all other errors."""

    def test_long_changes(self):
        fine, long_one = Change(RING, (0, 1, 2) * 20), Change(RING, (0, 1, 2) * 20) * Change(RING, (0,))
        self.assertEqual(long_one.length, 61)
        small, wall = plain(RING), Wall(RING, (), 0)
        self.made(certify_crossing, change=fine, wall=wall)
        self.made(certify_front, change=fine, other=small)
        self.made(certify_under, change=small, other=fine)
        self.made(certify_order, change=fine)
        self.made(certify_continuation, change=fine, other=small, most=60)
        self.refuses(TooMany(60), certify_crossing, change=long_one, wall=wall)
        self.refuses(TooMany(60), certify_order, change=long_one)
        for change, other in ((long_one, small), (small, long_one), (long_one, long_one)):
            self.refuses(TooMany(60), certify_front, change=change, other=other)
            self.refuses(TooMany(60), certify_under, change=change, other=other)
            # There is nothing to be told of these, so no claim has long words.
            self.assertIsNone(certify_continuation(change, other, 60))
        far = Change(PAIR, (0, 1) * 30) * Change(PAIR, (0,))
        self.refuses(TooMany(60), certify_continuation, change=far, other=Change(PAIR, (1,)), most=60)
        self.refuses(TooMany(60), certify_continuation, change=Change(PAIR, (1,)), other=far, most=60)

    def test_deep_walls(self):
        deep = Wall(PAIR, (0, 1) * 30, 0)
        self.assertEqual(len(deep.road[0]), 60)
        self.made(certify_crossing, change=plain(PAIR), wall=deep)
        self.made(certify_meeting, wall=deep, other=deep)
        deeper = wall_turned(Change(PAIR, (1,)), deep)
        self.assertEqual(len(deeper.road[0]), 61)
        self.refuses(TooMany(60), certify_crossing, change=plain(PAIR), wall=deeper)
        for wall, other in ((deep, deeper), (deeper, deep), (deeper, deeper)):
            self.refuses(TooMany(60), certify_meeting, wall=wall, other=other)

    def test_long_flips_and_tops(self):
        flip = carried_by(Change(RING, (0,)), Change(RING, (0, 1, 2) * 15))
        self.assertGreater(flip.length, 60)
        self.refuses(TooMany(60), certify_settled, change=flip)
        longest = top(beside(named("H4"), named("G2")))
        self.refuses(TooMany(60), certify_settled, change=longest)
        self.refuses(TooMany(60), certify_mirrors, change=longest)
        self.refuses(TooMany(60), certify_order, change=longest)
        for change in (top(named("H4")), plain(longest.table)):
            self.made(certify_settled, change=change)
            self.made(certify_mirrors, change=change)


class WrongTest(CallCase):
    def test_wrong_tables_words_and_rooms(self):
        for value in odd_values() + [plain(RING)]:
            self.refuses(NotATable(value), certify_same, table=value, word=0, other_word=0)
            self.refuses(NotATable(value), certify_least, table=value, word=0)
            self.refuses(NotATable(value), certify_length, table=value, word=0)
            self.refuses(NotATable(value), certify_finite, table=value)
            self.refuses(NotATable(value), certify_kind, table=value, piece=0)
            self.refuses(NotATable(value), certify_small, table=value)
            self.refuses(NotATable(value), certify_rooms_carried, table=value, room=0, other_room=0)
            self.refuses(NotATable(value), certify_top, table=value, room=0)
            self.refuses(NotATable(value), certify_words, table=value, word=0, other_word=0)
        words = [(value, None) for value in odd_values(but=(lambda v: type(v) is tuple,))]
        for word, at in words + [((0, 3), 1), ((0, True), 1), ((0,) * 61, 60), ((-1,), 0)]:
            for function in (certify_same, certify_words):
                self.refuses(InvalidWord(at), function, table=RING, word=word, other_word=0)
                self.refuses(InvalidWord(at), function, table=RING, word=(0,) * 13, other_word=word)
            self.refuses(InvalidWord(at), certify_least, table=RING, word=word)
            self.refuses(InvalidWord(at), certify_length, table=RING, word=word)
        for room, at in words + [((0, 3), 1), ((0, 0), 1), ((True,), 0)]:
            self.refuses(InvalidRoom(at), certify_rooms_carried, table=RING, room=room, other_room=0)
            self.refuses(InvalidRoom(at), certify_rooms_carried, table=RING, room=(), other_room=room)
            self.refuses(InvalidRoom(at), certify_top, table=RING, room=room)
            self.refuses(InvalidRoom(at), certify_kind, table=RING, piece=room)

    def test_wrong_changes_walls_and_quotients(self):
        change, wall = plain(RING), Wall(RING, (), 0)
        for value in odd_values() + [RING]:
            self.refuses(NotAChange(value), certify_crossing, change=value, wall=0)
            self.refuses(NotAWall(value), certify_crossing, change=change, wall=value)
            self.refuses(NotAWall(value), certify_meeting, wall=value, other=0)
            self.refuses(NotAWall(value), certify_meeting, wall=wall, other=value)
            for function in (certify_front, certify_under, certify_carried):
                self.refuses(NotAChange(value), function, change=value, other=0)
                self.refuses(NotAChange(value), function, change=change, other=value)
            self.refuses(NotAChange(value), certify_continuation, change=value, other=0, most=-1)
            self.refuses(NotAChange(value), certify_continuation, change=change, other=value, most=-1)
            for function in (certify_order, certify_mirrors, certify_settled, certify_balanced):
                self.refuses(NotAChange(value), function, change=value)
            self.refuses(NotAQuotient(value), certify_quotients, quotient=value, other=0)
            self.refuses(NotAQuotient(value), certify_quotients, quotient=quotient_of(named("A2"), ()), other=value)
        for value in odd_values(but=(lambda v: type(v) is int and 0 <= v <= 60,)) + [61]:
            self.refuses(InvalidNumber(value), certify_continuation, change=change, other=plain(PAIR), most=value)

    def test_other_tables(self):
        change, other = plain(RING), Change(chain((3,)), (0,))
        self.refuses(OtherTable(), certify_crossing, change=change, wall=Wall(PAIR, (), 0))
        self.refuses(OtherTable(), certify_meeting, wall=Wall(RING, (), 0), other=Wall(PAIR, (), 0))
        for function in (certify_front, certify_under, certify_carried):
            self.refuses(OtherTable(), function, change=change, other=other)
        self.refuses(OtherTable(), certify_continuation, change=change, other=other, most=60)
        self.refuses(OtherTable(), certify_quotients, quotient=quotient_of(named("A2"), ()), other=quotient_of(named("A3"), ()))

    def test_what_comes_last(self):
        turn = Change(RING, (0, 1))
        self.refuses(NotAFlip(turn), certify_settled, change=turn)
        long_one = Change(RING, (0, 1, 2) * 20) ** 2
        self.refuses(NotAFlip(long_one), certify_settled, change=long_one)
        self.refuses(NotFinite(), certify_carried, change=turn, other=turn)
        self.refuses(NotFinite(), certify_mirrors, change=long_one)
        self.refuses(NotFinite(), certify_balanced, change=turn)
        self.refuses(TooMany(720), certify_carried, change=plain(named("A5")), other=plain(named("A5")))
        self.refuses(TooMany(720), certify_balanced, change=top(named("A5")))
        self.refuses(TooMany(120), certify_balanced, change=top(named("B4")))
        self.refuses(TooMany(14400), certify_carried, change=plain(named("H4")), other=plain(named("H4")))

    def test_all_are_tried(self):
        told = {name for name in vars(certificates) if name.startswith("certify_")}
        self.assertEqual(told, {name for name in globals() if name.startswith("certify_")})


if __name__ == "__main__":
    unittest.main()
