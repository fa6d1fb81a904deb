"""Points 55 to 57 and the module checker: what is accepted is so, and all that the document tells is accepted."""

import itertools
import unittest

import oracle
from oracle import CallCase, chance, odd_values, random_ties, random_word
from wallwalks.carrying import carrying, is_carried
from wallwalks.certificates import (
    certify_balanced, certify_carried, certify_continuation, certify_crossing, certify_finite, certify_front, certify_kind,
    certify_least, certify_length, certify_meeting, certify_mirrors, certify_order, certify_quotients, certify_rooms_carried,
    certify_same, certify_settled, certify_small, certify_top, certify_under, certify_words,
)
from wallwalks.changes import Change, plain
from wallwalks.checker import accepts
from wallwalks.crossings import crosses
from wallwalks.ends import is_finite, is_finite_room, kinds, room_top, top
from wallwalks.fronts import beginnings, begins, common_front, facing_pair, least_continuation
from wallwalks.laurents import letter
from wallwalks.machines import walls_small
from wallwalks.pairs import balanced
from wallwalks.positives import Positive
from wallwalks.quotients import Quotient
from wallwalks.steps import is_least, stepped, steps_of
from wallwalks.subwords import is_under
from wallwalks.tables import Table, beside, chain, named
from wallwalks.turns import carried_by, carrier, order_of, shift
from wallwalks.undoing import is_opposite
from wallwalks.walls import Wall, meeting

RING = named("~A2")
PAIR = chain((0,))
A2 = named("A2")


def is_true(claim):
    """Whether a claim that is well formed is so, by other parts of the package."""
    name, text, *parts = claim
    table = Table.read(text)
    changes = [Change(table, part) if len(part) <= 60 and set(part) <= set(range(table.size)) else None
               for part in parts if type(part) is tuple and all(type(s) is int for s in part)]
    if name in ("same", "unlike"):
        return (changes[0] == changes[1]) is (name == "same")
    if name in ("least", "spare"):
        return is_least(table, parts[0]) is (name == "least")
    if name == "length":
        return changes[0].length == parts[1]
    if name in ("finite", "not finite"):
        return is_finite(table) is (name == "finite")
    if name == "kind":
        return dict(zip(table.pieces, kinds(table))).get(parts[0]) == parts[1]
    if name in ("crosses", "does not cross"):
        return crosses(changes[0], Wall(table, parts[1], parts[2])) is (name == "crosses")
    if name == "meeting":
        return meeting(Wall(table, parts[0], parts[1]), Wall(table, parts[2], parts[3])) == parts[4]
    if name == "small walls":
        return len(walls_small(table)) == parts[0]
    if name in ("rooms carried", "rooms not carried"):
        return (carrying(table, *parts) is not None) is (name == "rooms carried")
    if name == "top":
        return is_finite_room(table, parts[0]) and room_top(table, parts[0]) == Change(table, ()) * product(table, parts[1])
    if name == "greatest front":
        return common_front(changes[0], changes[1]) == changes[2]
    if name == "least continuation":
        return least_continuation(changes[0], changes[1], 60) == changes[2]
    if name == "no continuation":
        return facing_pair(*changes) is not None and least_continuation(*changes, 60) is None
    if name in ("under", "not under"):
        return is_least(table, parts[1]) and is_under(*changes) is (name == "under")
    if name in ("one positive", "two positives"):
        return (Positive(table, parts[0]) == Positive(table, parts[1])) is (name == "one positive")
    if name == "one quotient":
        x, y, x2, y2 = (Positive(table, word) for word in parts)
        return not is_finite(table) or Quotient(x, y) == Quotient(x2, y2)
    if name in ("order", "endless order"):
        return order_of(changes[0]) == (parts[1] if name == "order" else 0)
    if name == "mirrors":
        return shift(changes[0]) == parts[1]
    if name == "carried":
        return not is_finite(table) or carrier(*changes) is not None
    if name == "settled":
        return is_opposite(table, parts[1]) and not changes[0] * changes[0]
    if name == "balanced":
        told = sorted((Change(table, word).word, laurent) for word, laurent in parts[1])
        return told == sorted((held.word, laurent.text) for held, laurent in balanced(changes[0]).terms)
    raise AssertionError(name)


def product(table, word):
    """The change of a word with any number of buttons."""
    made = plain(table)
    for s in word:
        made = made * Change(table, (s,))
    return made


def places_in(value):
    """All places in nested tuples, each as the indexes that lead there."""
    yield ()
    if type(value) is tuple:
        for at, part in enumerate(value):
            for rest in places_in(part):
                yield (at,) + rest


def part_at(value, place):
    for at in place:
        value = value[at]
    return value


def with_part(value, place, part):
    if not place:
        return part
    at = place[0]
    return value[:at] + (with_part(value[at], place[1:], part),) + value[at + 1:]


def never_fitting(part):
    """What may stand nowhere in the place of a part of an accepted claim or certificate."""
    found = [[part], {0: part}, oracle.Odd(), None, object(), b"x"]
    if type(part) is int:
        found += [str(part), bool(part), -1 - abs(part), part + 10 ** 59]
    if type(part) is str:
        found += [part + " ", " " + part, part.upper() + "~", ""]
    if type(part) is tuple:
        found += [list(part), (part,) + ((oracle.Odd(),),), part + (None,), part + (oracle.Odd(),)]
    return found


def perhaps_fitting(part):
    """Other values of the same form, nearby."""
    if type(part) is int:
        return [part + 1, part - 1, 0, 1, 2, 6 - part]
    if type(part) is str:
        return [part[:-1], part.replace("1", "2"), part.replace("3", "4"), "0", "1", "-1", "2+1g", "1q0", "-1q1", "swap", "drop",
                "not " + part, part.replace("not ", ""), "finite", "flat", "wild"]
    if type(part) is tuple:
        found = [part[:at] + part[at + 1:] for at in range(len(part))][:6] + [part[::-1], part * 2, part[1:], part[:-1], ()]
        return found + ([part + (part[-1],), part[:1] + part] if part else [(0,), (1,), ((),)])
    return []


class MadeCase(CallCase):
    """Claims with certificates of all kinds, made by the package."""

    def made(self, seed):
        rng = chance(seed)
        for table in (RING, PAIR, A2, named("B2"), named("A3"), chain((3, 4)), chain((2, 5)), chain((0, 3)), chain((6,)), named("~C2"),
                      Table(random_ties(rng, 3)), Table(random_ties(rng, 4))):
            size = table.size
            word, other, third = (random_word(rng, size, rng.randrange(6)) for _ in range(3))
            change, further, last = Change(table, word), Change(table, other), Change(table, third[:2])
            room = tuple(sorted(rng.sample(range(size), rng.randrange(size))))
            wall, other_wall = Wall(table, other, word[0] if word else 0), Wall(table, third, size - 1)
            yield certify_same(table, word, change.word)
            yield certify_same(table, word, other)
            yield certify_least(table, word)
            yield certify_least(table, change.word)
            yield certify_length(table, word)
            yield certify_finite(table)
            for piece in table.pieces:
                yield certify_kind(table, piece)
            yield certify_crossing(change, wall)
            yield certify_meeting(wall, other_wall)
            if len(walls_small(table)) < 10:
                yield certify_small(table)
            yield certify_rooms_carried(table, room, tuple(sorted(rng.sample(range(size), len(room)))))
            yield certify_rooms_carried(table, (0,), (size - 1,))
            if is_finite_room(table, room):
                yield certify_top(table, room)
            yield certify_front(change, further)
            pair = certify_continuation(change, last, 20)
            if pair is not None:
                yield pair
            yield certify_under(last, change)
            yield certify_under(further, change)
            yield certify_words(table, word, Positive(table, word).word)
            yield certify_words(table, word, other)
            yield certify_order(change)
            flip = carried_by(Change(table, (size - 1,)), last)
            yield certify_settled(flip)
            if is_finite(table):
                quotient = Quotient(Positive(table, word), Positive(table, other))
                yield certify_quotients(quotient, quotient)
                yield certify_mirrors(change)
                yield certify_carried(change, carried_by(change, further))
                yield certify_balanced(Change(table, word[:4]))


class SoundTest(MadeCase):
    def test_what_is_made(self):
        names = set()
        for claim, certificate in self.made(311):
            self.assertIs(self.call(accepts, claim=claim, certificate=certificate), True, claim)
            self.assertIs(is_true(claim), True, claim)
            names.add(claim[0])
        self.assertEqual(names, {
            "same", "unlike", "least", "spare", "length", "finite", "not finite", "kind", "crosses", "does not cross", "meeting",
            "small walls", "rooms carried", "rooms not carried", "top", "greatest front", "least continuation",
            "no continuation", "under", "not under", "one positive", "two positives", "one quotient", "order", "endless order",
            "mirrors", "carried", "settled", "balanced",
        })

    def test_what_never_fits(self):
        for claim, certificate in self.made(312):
            for at in range(2):
                pair = (claim, certificate)
                for place in list(places_in(pair[at]))[:60]:
                    for part in never_fitting(part_at(pair[at], place)):
                        changed = [claim, certificate]
                        changed[at] = with_part(pair[at], place, part)
                        self.assertIs(accepts(*changed), False, changed)

    def test_what_is_accepted_is_so(self):
        accepted = refused = 0
        for seed in (313, 314, 315):
            for claim, certificate in self.made(seed):
                for at in range(2):
                    pair = (claim, certificate)
                    for place in list(places_in(pair[at]))[:40]:
                        for part in perhaps_fitting(part_at(pair[at], place)):
                            changed = [claim, certificate]
                            changed[at] = with_part(pair[at], place, part)
                            found = accepts(*changed)
                            self.assertIs(type(found), bool)
                            accepted += found
                            refused += not found
                            if found:
                                self.assertIs(is_true(changed[0]), True, changed)
        self.assertGreater(min(accepted, refused), 1000)

    def test_certificates_of_other_claims(self):
        made = list(self.made(316))
        for claim, _ in made[::3]:
            for _, certificate in made[::2]:
                if accepts(claim, certificate):
                    self.assertIs(is_true(claim), True)

    def test_any_values(self):
        for value in odd_values() + [("same",), ("same", RING.text), (RING.text, "same"), ("", RING.text, (), ()), ("same", None, (), ())]:
            for other in odd_values():
                self.assertIs(accepts(value, other), False)
                self.assertIs(accepts(claim=value, certificate=other), False)
        for value in odd_values(but=(lambda v: type(v) is tuple and not v,)):
            for name in ("same", "least", "finite", "order", "settled", "x", ""):
                self.assertIs(accepts((name, value), ()), False)
                self.assertIs(accepts((name, RING.text, value), value), False)
                self.assertIs(accepts((name, RING.text, value, value), ()), False)
        for text in ("table: 1 3; 3 2", "table: 1 3;3 1", "table: 1  3; 3 1", "", "table: ", "1 3; 3 1", "table: 1 7; 7 1",
                     "table: 1 3; 4 1", "table: 01 3; 3 1", "table: 1 3; 3 1 "):
            self.assertIs(accepts(("least", text, ()), ()), False)
        self.assertIs(accepts(("least", "table: 1 3; 3 1", ()), ()), True)


class CheckCase(CallCase):
    def yes(self, claim, certificate):
        self.assertIs(self.call(accepts, claim=claim, certificate=certificate), True, (claim, certificate))

    def no(self, claim, certificate):
        self.assertIs(self.call(accepts, claim=claim, certificate=certificate), False, (claim, certificate))


class WordTest(CheckCase):
    def test_same(self):
        text = A2.text
        self.yes(("same", text, (0, 1, 0), (1, 0, 1)), (("swap", 0),))
        self.no(("same", text, (0, 1, 0), (1, 0, 1)), ())
        self.no(("same", text, (0, 1, 0), (1, 0, 1)), (("swap", 1),))
        self.no(("same", text, (0, 1, 0), (1, 0, 1)), (("swap", 0), ("swap", 0)))
        self.yes(("same", text, (0, 1, 0), (1, 0, 1)), (("swap", 0),) * 3)
        self.yes(("same", text, (), ()), ())
        self.yes(("same", text, (0,), (0,)), (("add", 1, 1), ("drop", 1)))
        self.yes(("same", text, (0,), (0,)), (("add", 0, 0), ("drop", 1)))
        self.yes(("same", text, (), (1, 1)), (("add", 0, 1),))
        self.yes(("same", text, (0, 1, 1), (0,)), (("drop", 1),))
        self.no(("same", text, (0, 1, 1), (0,)), (("drop", 0),))
        self.no(("same", text, (0, 1, 1), (0,)), (("drop", 2),))
        self.no(("same", text, (0,), (0, 1, 1)), (("add", 2, 1),))
        self.no(("same", text, (0,), (0, 1, 1)), (("add", 1, 2),))
        self.no(("same", text, (0,), (0, 1, 1)), (("add", 1),))
        self.no(("same", text, (0, 1, 1), (0,)), (("drop", 1, 1),))
        self.no(("same", text, (0, 1, 0), (1, 0, 1)), (("swap", 0, 0),))
        self.no(("same", text, (0, 1, 0), (1, 0, 1)), (("swap", -3),))
        self.no(("same", PAIR.text, (0, 1, 0), (1, 0, 1)), (("swap", 0),))
        self.no(("same", text, (0, 0), (0, 0)), (("swap", 0),))
        for add in (("add", -1, 0), ("add", 3, 0), ("add", 1, -1), ("add", 1, 2), ("add", True, 0), ("add", 1, False), ("add", 1, 0, 0),
                    ("add", "1", 0), ("add", None, 0), ("Add", 1, 0), (), ("add",), ["add", 1, 0]):
            for at in range(4):
                self.no(("same", text, (0, 1), (0, 1)), (add, ("drop", at)))
        self.yes(("same", text, (0, 1), (0, 1)), (("add", 2, 0), ("drop", 2)))
        self.yes(("same", chain((2,)).text, (0, 1), (1, 0)), (("swap", 0),))
        self.yes(("same", chain((6,)).text, (0, 1) * 3, (1, 0) * 3), (("swap", 0),))

    def test_same_by_all_steps(self):
        """Each step that can be done is taken, and no other one."""
        rng = chance(321)
        for _ in range(60):
            table = Table(random_ties(rng, 3))
            word = random_word(rng, 3, rng.randrange(8))
            done = steps_of(table, word)
            for step in [(kind, at) for kind in ("swap", "drop") for at in range(-1, 9)]:
                if step in done:
                    self.yes(("same", table.text, word, stepped(table, word, step)), (step,))
                else:
                    self.no(("same", table.text, word, word), (step, step))

    def test_numbers_of_steps_and_lengths(self):
        text = A2.text
        word = (0, 1, 0)
        self.yes(("same", text, word, word), (("swap", 0),) * 4000)
        self.no(("same", text, word, word), (("swap", 0),) * 4002)
        self.yes(("same", text, word, (1, 0, 1)), (("swap", 0),) * 3999)
        self.no(("same", text, word, (1, 0, 1)), (("swap", 0),) * 4001)
        up, down = ("add", 0, 0), ("drop", 0)
        self.yes(("same", text, (), ()), (up,) * 60 + (down,) * 60)
        self.no(("same", text, (), ()), (up,) * 61 + (down,) * 61)
        self.yes(("same", text, (0,) * 60, (0,) * 60), (up,) * 30 + (down,) * 30)
        self.no(("same", text, (0,) * 60, (0,) * 60), (up,) * 31 + (down,) * 31)
        self.no(("same", text, (0,) * 61, (0,) * 61), ())
        self.no(("same", text, (), (0,) * 62), (up,) * 31)

    def test_unlike(self):
        rng = chance(322)
        for _ in range(80):
            table = Table(random_ties(rng, 3))
            word, other = random_word(rng, 3, rng.randrange(5)), random_word(rng, 3, rng.randrange(5))
            left, right = oracle.images(table.ties, word), oracle.images(table.ties, other)
            for s in range(3):
                self.assertIs(accepts(("unlike", table.text, word, other), s), left[s] != right[s])
            for value in (3, -1, None, (0,), True, "0"):
                self.no(("unlike", table.text, word, other), value)

    def test_least_and_spare(self):
        rng = chance(323)
        for _ in range(80):
            table = Table(random_ties(rng, rng.randrange(1, 4)))
            word = random_word(rng, table.size, rng.randrange(8))
            least = len(oracle.first_word(table.ties, word)) == len(word)
            self.assertIs(accepts(("least", table.text, word), ()), least)
            for i, j in itertools.product(range(-1, len(word) + 1), repeat=2):
                expected = 0 <= i < j < len(word) and (
                    oracle.turn_by(table.ties, oracle.axis(table.size, word[j]), word[i + 1:j]) == oracle.axis(table.size, word[i]))
                self.assertIs(accepts(("spare", table.text, word), (i, j)), expected)
        self.no(("least", A2.text, (0,)), ((),))
        self.no(("spare", A2.text, (0, 0)), (0, 1, 1))
        self.no(("spare", A2.text, (0, 0)), (0,))
        self.yes(("least", RING.text, (0, 1, 2) * 20), ())
        self.no(("least", RING.text, (0, 1, 2) * 20 + (0,)), ())
        # To the opposite of the axis is not enough.
        self.no(("spare", A2.text, (0, 1, 0, 1, 0, 1, 0)), (0, 6))
        self.yes(("spare", A2.text, (0, 1, 0, 1)), (0, 3))

    def test_lengths(self):
        text = A2.text
        self.yes(("length", text, (0, 1, 0, 1), 2), ((1, 0), (("swap", 0), ("drop", 2))))
        self.no(("length", text, (0, 1, 0, 1), 2), ((0, 1), (("swap", 0), ("drop", 2))))
        self.no(("length", text, (0, 1, 0, 1), 4), ((0, 1, 0, 1), ()))
        self.no(("length", text, (0, 1, 0, 1), 3), ((1, 0), (("swap", 0), ("drop", 2))))
        self.yes(("length", text, (), 0), ((), ()))
        self.no(("length", text, (0,), 0), ((), ()))
        self.no(("length", text, (), -1), ((), ()))
        self.no(("length", text, (), 0), ((),))
        self.no(("length", text, (), 0), ((), (), ()))
        self.yes(("length", PAIR.text, (0, 1) * 30, 60), ((0, 1) * 30, ()))

    def test_finite_and_not(self):
        self.yes(("finite", A2.text), (0, 1, 0))
        self.yes(("finite", A2.text), (1, 0, 1))
        self.yes(("finite", A2.text), (0, 0, 0, 1, 0, 1, 1))
        self.no(("finite", A2.text), (0, 1))
        self.no(("finite", A2.text), (0, 1, 0, 1))
        self.no(("finite", PAIR.text), (0, 1) * 30)
        self.yes(("finite", named("A1").text), (0,) * 119)
        self.no(("finite", named("A1").text), (0,) * 121)
        self.no(("finite", named("A1").text, ()), (0,))
        text = RING.text
        self.yes(("not finite", text), ((0, 1, 2), ("1", "1", "1")))
        self.yes(("not finite", beside(A2, PAIR).text), ((2, 3), ("1", "1")))
        self.no(("not finite", text), ((0, 1), ("1", "1")))
        self.no(("not finite", text), ((0, 1, 2), ("1", "1", "2")))
        self.no(("not finite", text), ((0, 1, 2), ("1", "1")))
        self.no(("not finite", text), ((0, 1, 2), ("1", "1", "1", "1")))
        self.no(("not finite", text), ((0, 1, 2), ("0", "0", "0")))
        self.no(("not finite", text), ((0, 1, 2), ("-1", "-1", "-1")))
        self.no(("not finite", text), ((0, 1, 2), (1, 1, 1)))
        self.no(("not finite", text), ((), ()))
        self.no(("not finite", text), ((0, 2, 1), ("1", "1", "1")))
        self.no(("not finite", text), ((0, 1, 2), ("1", "1", "01")))
        self.no(("not finite", text), ((0, 1, 2), ("1", "1", "1+0g")))
        self.yes(("not finite", text), ((0, 1, 2), ("2+1g", "2+1g", "2+1g")))
        self.yes(("not finite", Table(oracle.rows_of(2, {(0, 1): 0})).text), ((0, 1), ("0+1g", "0+1g")))
        # Numbers above 0 need not have levels of one sign.
        free = Table(oracle.rows_of(3, {(0, 1): 0, (0, 2): 0, (1, 2): 0}))
        self.yes(("not finite", free.text), ((0, 1, 2), ("1", "1", "2")))
        self.yes(("not finite", free.text), ((0, 2), ("1", "1")))
        self.no(("not finite", free.text), ((0, 2), ("1", "2")))

    def test_kinds(self):
        table = Table(oracle.rows_of(5, {(0, 1): 3, (2, 3): 0, (2, 4): 2, (3, 4): 0}))
        text = table.text
        self.yes(("kind", text, (0, 1), "finite"), ("1", "1"))
        self.yes(("kind", text, (2, 3, 4), "wild"), ("2", "3", "2"))
        self.no(("kind", text, (2, 3, 4), "wild"), ("1", "1", "1"))
        self.no(("kind", text, (0, 1), "flat"), ("1", "1"))
        self.no(("kind", text, (0,), "finite"), ("1",))
        self.no(("kind", text, (2, 3), "flat"), ("1", "1"))
        self.no(("kind", text, (0, 1), "finite"), ("1", "2"))
        self.no(("kind", text, (0, 1), "finite"), ("1", "1", "1"))
        self.no(("kind", text, (0, 1), "Finite"), ("1", "1"))
        self.no(("kind", text, (), "finite"), ())
        self.no(("kind", text, (0, 1, 2, 3, 4), "wild"), ("1",) * 5)
        self.yes(("kind", PAIR.text, (0, 1), "flat"), ("1+1g", "1+1g"))
        self.no(("kind", PAIR.text, (0, 1), "flat"), ("1", "2"))
        # The levels of golden numbers: 2 - g is above 0.
        self.yes(("kind", named("H2").text, (0, 1), "finite"), ("1", "1"))


class SideTest(CheckCase):
    def test_crossings(self):
        rng = chance(331)
        for _ in range(150):
            table = Table(random_ties(rng, 3))
            word, other = random_word(rng, 3, rng.randrange(7)), random_word(rng, 3, rng.randrange(4))
            s = rng.randrange(3)
            axis = oracle.up(oracle.turn_by(table.ties, oracle.axis(3, s), other))
            expected = oracle.is_down(oracle.turn_by(table.ties, axis, word[::-1]))
            self.assertIs(accepts(("crosses", table.text, word, other, s), ()), expected)
            self.assertIs(accepts(("does not cross", table.text, word, other, s), ()), not expected)
            self.no(("crosses" if expected else "does not cross", table.text, word, other, s), ((),))
        self.no(("crosses", A2.text, (0,), (), 2), ())
        self.no(("crosses", A2.text, (0,) * 61, (), 0), ())
        self.no(("crosses", A2.text, (0,), (0,) * 61, 0), ())
        self.yes(("crosses", A2.text, (0,), (0,) * 60, 0), ())

    def test_meetings(self):
        rng = chance(332)
        found = set()
        for _ in range(200):
            table = Table(random_ties(rng, rng.randrange(1, 4)))
            size = table.size
            word, other = random_word(rng, size, rng.randrange(4)), random_word(rng, size, rng.randrange(4))
            s, t = rng.randrange(size), rng.randrange(size)
            both = word + (s,) + word[::-1] + other + (t,) + other[::-1]
            powers = [k for k in range(1, 7) if oracle.images(table.ties, both * k) == oracle.images(table.ties, ())]
            met = powers[0] if powers else 0
            found.add(met)
            for many in range(-1, 8):
                self.assertIs(accepts(("meeting", table.text, word, s, other, t, many), ()), many == met)
            self.no(("meeting", table.text, word, s, other, t, met), 0)
        self.assertEqual(found, {0, 1, 2, 3, 4, 5, 6})

    def test_small_walls(self):
        text = RING.text
        roads = tuple(wall.road for wall in walls_small(RING))
        self.yes(("small walls", text, 6), roads)
        self.yes(("small walls", text, 6), roads[::-1])
        self.no(("small walls", text, 5), roads[:5])
        self.no(("small walls", text, 5), roads[1:])
        self.no(("small walls", text, 7), roads + (((0, 1), 2),))
        self.no(("small walls", text, 7), roads + roads[:1])
        self.no(("small walls", text, 7), roads)
        # Any words that mean the walls serve, up to 120 buttons.
        self.yes(("small walls", text, 6), tuple((word + (s,), s) for word, s in roads))
        self.yes(("small walls", text, 6), tuple(((0, 0) * ((120 - len(word)) // 2) + word, s) for word, s in roads))
        self.no(("small walls", text, 6), tuple(((0, 0) * 60 + word, s) for word, s in roads))
        # Two walls that are no small ones, though each comes from the other: none of them from a deeper one.
        self.yes(("small walls", PAIR.text, 2), (((), 0), ((), 1)))
        self.no(("small walls", PAIR.text, 3), (((), 0), ((), 1), ((0,), 1)))
        self.no(("small walls", PAIR.text, 4), (((), 0), ((), 1), ((0,), 1), ((1,), 0)))
        self.no(("small walls", PAIR.text, 1), (((), 0),))
        # A wall that a button leaves where it is does not come from a known one by it.
        self.no(("small walls", beside(PAIR, named("A1")).text, 4), (((), 0), ((), 1), ((), 2), ((0,), 1)))
        self.yes(("small walls", beside(PAIR, named("A1")).text, 3), (((), 0), ((), 1), ((), 2)))
        for name, many in (("A3", 6), ("B3", 9), ("H3", 15), ("G2", 6), ("H4", 60)):
            table = named(name)
            roads = tuple(wall.road for wall in walls_small(table))
            self.assertEqual(len(roads), many)
            self.yes(("small walls", table.text, many), roads)
            for at in range(many):
                self.no(("small walls", table.text, many - 1), roads[:at] + roads[at + 1:])
        self.no(("small walls", beside(named("H4"), named("A1")).text, 61),
                tuple((word, s) for word, s in [wall.road for wall in walls_small(named("H4"))]) + (((), 4),))

    def test_greatest_fronts(self):
        for table in (A2, PAIR, RING):
            words = [word for many in range(4) for word in itertools.product(range(table.size), repeat=many)]
            rng = chance(333)
            for _ in range(250):
                word, other, front = rng.choice(words), rng.choice(words), rng.choice(words)
                if rng.randrange(2):
                    front = common_front(Change(table, word), Change(table, other)).word
                expected = common_front(Change(table, word), Change(table, other)) == Change(table, front)
                self.assertIs(accepts(("greatest front", table.text, word, other, front), ()), expected)
        # Words need not be least.
        self.yes(("greatest front", A2.text, (0, 0, 1), (1, 0, 0), (1, 1, 1)), ())
        self.no(("greatest front", A2.text, (0,), (0,), (0,)), (0,))

    def test_continuations(self):
        for table in (A2, named("B2"), RING, PAIR, chain((2, 3))):
            words = [word for many in range(4) for word in itertools.product(range(table.size), repeat=many)]
            rng = chance(334)
            for _ in range(200):
                word, other, further = rng.choice(words), rng.choice(words), rng.choice(words)
                least = least_continuation(Change(table, word), Change(table, other), 60)
                if least is not None and rng.randrange(2):
                    further = least.word
                expected = least is not None and least == Change(table, further)
                self.assertIs(accepts(("least continuation", table.text, word, other, further), ()), expected)
                if least is not None:
                    longer = top(table).word if is_finite(table) else least.word + tuple(s for s in range(table.size) if s not in
                                                                                          least.backs)[:1]
                    self.assertIs(accepts(("least continuation", table.text, word, other, longer), ()),
                                  Change(table, longer) == least)
        self.no(("least continuation", A2.text, (0,), (0,), (0,)), ((),))
        self.yes(("least continuation", A2.text, (0, 1, 1), (0, 0, 1), (1, 0, 1)), ())

    def test_no_continuations(self):
        text = PAIR.text
        self.yes(("no continuation", text, (0,), (1,)), ((), 0, (), 1))
        self.yes(("no continuation", text, (0, 1), (1, 0)), ((0,), 1, (1,), 0))
        self.no(("no continuation", text, (1,), (0,)), ((), 0, (), 1))
        self.no(("no continuation", text, (0,), (0,)), ((), 0, (), 1))
        self.no(("no continuation", text, (0, 1), (0, 1)), ((), 0, (0,), 1))
        self.no(("no continuation", text, (0,), (1,)), ((), 0, (), 1, ()))
        self.no(("no continuation", text, (0,), (1,)), (((), 0), ((), 1)))
        self.no(("no continuation", A2.text, (0,), (1,)), ((), 0, (), 1))
        self.no(("no continuation", text, (0,), (1,)), ((), 0, (), 0))
        # The words that mean the walls may be as long as 120 buttons.
        self.yes(("no continuation", text, (0,), (1,)), ((0, 0) * 60, 0, (0, 0) * 60, 1))
        self.no(("no continuation", text, (0,), (1,)), ((0, 0) * 61, 0, (), 1))

    def test_under(self):
        rng = chance(335)
        for _ in range(60):
            table = Table(random_ties(rng, rng.randrange(1, 4)))
            word, other = random_word(rng, table.size, rng.randrange(4)), random_word(rng, table.size, rng.randrange(6))
            least = is_least(table, other)
            under = is_under(Change(table, word), Change(table, other))
            self.assertIs(accepts(("not under", table.text, word, other), ()), least and not under)
            some = False
            for many in range(len(other) + 1):
                for held in itertools.combinations(range(len(other)), many):
                    made = Change(table, tuple(other[at] for at in held)) == Change(table, word)
                    self.assertIs(accepts(("under", table.text, word, other), held), least and made)
                    some = some or made
            if least:
                self.assertIs(some, under)
        self.no(("under", A2.text, (0,), (0, 1)), (0, 0))
        self.no(("under", A2.text, (0,), (0, 1, 0)), (2, 1))
        self.no(("under", A2.text, (0,), (0, 1, 0)), (3,))
        self.no(("under", A2.text, (0,), (0, 1, 0)), [0])
        self.no(("not under", A2.text, (1, 0), (0, 1)), ((),))


class RoomTest(CheckCase):
    def test_rooms_carried(self):
        for table in (A2, named("A3"), RING, chain((3, 4)), chain((0, 3))):
            rooms = [room for many in range(table.size + 1) for room in itertools.combinations(range(table.size), many)]
            rng = chance(341)
            for _ in range(150):
                room, other = rng.choice(rooms), rng.choice(rooms)
                word = random_word(rng, table.size, rng.randrange(6))
                found = carrying(table, room, other)
                if found is not None and rng.randrange(2):
                    word = found.word
                expected = is_carried(Change(table, word), room, other)
                self.assertIs(accepts(("rooms carried", table.text, room, other), word), expected)
        self.yes(("rooms carried", A2.text, (0,), (0,)), (0, 0) * 60)
        self.no(("rooms carried", A2.text, (0,), (0,)), (0, 0) * 61)
        self.no(("rooms carried", A2.text, (1, 0), (0, 1)), ())

    def test_rooms_not_carried(self):
        square, text = chain((4,)), chain((4,)).text
        good = (((0,), (("move", (0, 1, 0, 1)),)),)
        claim = ("rooms not carried", text, (0,), (1,))
        self.yes(claim, good)
        self.yes(claim, (((0,), (("move", (1, 0, 1, 0)),)),))
        self.yes(claim, (((0,), (("move", (1, 1, 1, 0, 1, 0)),)),))
        self.yes(claim, good + (((), (("move", (0,)), ("move", (1,)))),))
        self.yes(claim, good + (((0, 1), ()),))
        for wrong in (
            (), ((0,),), (((0,), ()),), (((0,), (("move", (0, 1, 0)),)),), (((0,), (("move", (0, 1, 0, 1)),) * 2),), good + good,
            (((1,), (("move", (0, 1, 0, 1)),)),), good + (((1,), (("move", (0, 1, 0, 1)),)),), (((0,), (("endless", (0, 1), ("1", "1")),)),),
            (((0,), (("move",),)),), (((0,), (("move", (0, 1, 0, 1), ()),)),), (((0,), ((),)),), (((0,), (("Move", (0, 1, 0, 1)),)),),
            good + (((), (("move", (1,)), ("move", (0,)))),), good + (((), (("move", (0, 1, 0, 1)), ("move", (1,)))),),
            good + (((1, 0), ()),), (((0,), (("move", (0, 1) * 61),)),),
        ):
            self.no(claim, wrong)
        self.no(("rooms not carried", text, (0,), (0,)), good)
        self.no(("rooms not carried", A2.text, (0,), (1,)), (((0,), (("move", (0, 1, 0)),)),))
        self.no(("rooms not carried", A2.text, (0,), (1,)), (((0,), (("move", (0, 1, 0)),)), ((1,), (("move", (0, 1, 0)),))))
        self.assertIsNone(carrying(square, (0,), (1,)))
        # Words that turn the axis of the button to the opposite of an axis, but not all of the piece down.
        for word in ((1,), (0, 1), (1, 0), (0, 1, 0, 1, 0, 1), ()):
            self.no(("rooms not carried", A2.text, (0,), (1,)), (((0,), (("move", word),)),))
            self.no(("rooms not carried", text, (0,), (1,)), (((0,), (("move", word),)),))

    def test_rows_of_endless_pieces(self):
        claim = ("rooms not carried", PAIR.text, (0,), (1,))
        self.yes(claim, (((0,), (("endless", (0, 1), ("1", "1")),)),))
        self.yes(claim, (((0,), (("endless", (0, 1), ("0+1g", "0+1g")),)),))
        for row in (("endless", (0,), ("1",)), ("endless", (0, 1), ("1", "2")), ("endless", (1, 0), ("1", "1")), ("endless", (), ()),
                    ("endless", (0, 1), ("1",)), ("endless", (0, 1)), ("endless", (0, 1), ("0", "0")), ("move", (0, 1)),
                    ("endless", (0, 1), ("1", "1"), ()), ("endless", (0, 1), (1, 1))):
            self.no(claim, (((0,), (row,)),))
        # The buttons of such a row belong to the piece of the button that comes to the room.
        table = beside(PAIR, chain((4,)))
        rows = (("endless", (0, 1), ("1", "1")), ("move", (2,)), ("move", (3,)))
        claim = ("rooms not carried", table.text, (0,), (1,))
        self.yes(claim, (((0,), rows),))
        self.no(claim, (((0,), (rows[0], ("endless", (0, 1), ("1", "1")), rows[2])),))
        self.no(claim, (((0,), (rows[0], rows[2], rows[1])),))
        # All of them, even where others are tied with the piece.
        table = chain((0, 3))
        claim = ("rooms not carried", table.text, (2,), (0,))
        both = (("move", (0,)), ("move", (1, 2, 1))), (("endless", (0, 1), ("1", "1")), ("move", (1, 2, 1)))
        self.yes(claim, (((2,), both[0]), ((1,), both[1])))
        self.no(claim, (((2,), (both[1][0], both[0][1])), ((1,), both[1])))
        # It need not be the whole piece.
        table = chain((0, 3))
        claim = ("rooms not carried", table.text, (0, 1), (0, 2))
        self.yes(claim, (((0, 1), (("endless", (0, 1), ("1", "1")),)),))
        self.yes(claim, (((0, 1), (("endless", (0, 1, 2), ("2", "2", "1")),)),))
        self.no(claim, (((0, 1), (("endless", (0, 1, 2), ("1", "1", "1")),)),))

    def test_moves_are_made_with_buttons_of_the_piece(self):
        table = chain((2, 4))
        claim = ("rooms not carried", table.text, (0,), (1,))
        self.yes(claim, (((0,), (("move", (1,)), ("move", (2,)))),))
        self.no(claim, (((0,), (("move", (1, 0)), ("move", (2,)))),))
        self.no(claim, (((0,), (("move", (1, 2, 1, 2)), ("move", (2,)))),))

    def test_tops(self):
        for table in (A2, RING, chain((4, 2)), chain((0, 3))):
            rooms = [room for many in range(table.size + 1) for room in itertools.combinations(range(table.size), many)]
            words = [word for many in range(5) for word in itertools.product(range(table.size), repeat=many)]
            for room in rooms:
                for word in words[::3] + ([room_top(table, room).word] if is_finite_room(table, room) else []):
                    expected = (set(word) <= set(room) and is_finite_room(table, room)
                                and Change(table, word) == room_top(table, room))
                    self.assertIs(accepts(("top", table.text, room, word), ()), expected)
        self.no(("top", A2.text, (0,), (0,)), ((),))
        self.yes(("top", A2.text, (0,), (0,) * 65), ())
        self.no(("top", A2.text, (0,), (0,) * 67), ())
        self.no(("top", A2.text, (0,), (0,) * 66), ())
        self.yes(("top", A2.text, (), ()), ())
        self.no(("top", A2.text, (0,), (0, 1, 1)), ())
        longest = beside(named("H4"), named("G2"))
        self.yes(("top", longest.text, (0, 1, 2, 3, 4, 5), top(longest).word), ())


class TurnTest(CheckCase):
    def test_one_positive(self):
        text = A2.text
        self.yes(("one positive", text, (0, 1, 0), (1, 0, 1)), (("swap", 0),))
        self.yes(("one positive", text, (0, 0), (0, 0)), ())
        self.no(("one positive", text, (0, 0), ()), (("drop", 0),))
        self.no(("one positive", text, (0,), (0,)), (("add", 0, 0), ("drop", 0)))
        self.yes(("one positive", text, (0, 1, 0), (0, 1, 0)), (("swap", 0),) * 4000)
        self.no(("one positive", text, (0, 1, 0), (0, 1, 0)), (("swap", 0),) * 4002)
        self.no(("one positive", text, (0, 1, 0), (0, 1, 0)), (("swap", 0),))
        self.no(("one positive", PAIR.text, (0, 1, 0), (1, 0, 1)), (("swap", 0),))

    def test_two_positives(self):
        text = A2.text
        claim = ("two positives", text, (0, 0), ())
        self.yes(claim, ((), ((0,), (0,)), (), ()))
        self.no(claim, ((), ((0, 0),), (), ()))
        self.no(claim, ((), ((0,),), (), ()))
        self.no(claim, ((), ((0,), (0,), ()), (), ()))
        self.no(claim, ((), ((0,), (0,)), ()))
        self.no(claim, ((), ((0,), (0,)), (), (), ()))
        self.yes(("two positives", text, (0, 1, 0), (0, 0, 1)), ((), ((0, 1, 0),), (), ((0,), (0, 1))))
        self.yes(("two positives", text, (0, 1, 0), (0, 0, 1)), ((("swap", 0),), ((1, 0, 1),), (), ((0,), (0, 1))))
        self.no(("two positives", text, (0, 1, 0), (0, 0, 1)), ((("swap", 0),), ((0, 1, 0),), (), ((0,), (0, 1))))
        # A front button that is no back button of the grain ahead: there the grain could be greater.
        self.no(("two positives", text, (0, 1), (1, 0)), ((), ((0,), (1,)), (), ((1,), (0,))))
        self.yes(("two positives", text, (0, 1), (1, 0)), ((), ((0, 1),), (), ((1, 0),)))
        # The grains must be unlike as changes, not only as words.
        self.no(("two positives", text, (0, 1, 0), (1, 0, 1)), ((), ((0, 1, 0),), (), ((1, 0, 1),)))
        self.no(("two positives", text, (0, 1, 0), (0, 1, 0)), ((), ((0, 1, 0),), (), ((0, 1, 0),)))
        self.no(("two positives", text, (0, 0), ()), ((("add", 0, 0), ("drop", 0)), ((0,), (0,)), (), ()))

    def test_two_positives_by_chance(self):
        rng = chance(351)
        for _ in range(80):
            table = Table(random_ties(rng, 3))
            word = random_word(rng, 3, 6)
            cuts = sorted(rng.sample(range(1, 6), rng.randrange(4)))
            parts = tuple(word[a:b] for a, b in zip([0] + cuts, cuts + [6]))
            fine = all(is_least(table, part) for part in parts) and all(
                set(Change(table, b).fronts) <= set(Change(table, a).backs) for a, b in zip(parts, parts[1:]))
            self.assertIs(accepts(("two positives", table.text, word, ()), ((), parts, (), ())), fine)

    def test_one_quotient(self):
        text = A2.text
        self.yes(("one quotient", text, (0, 1), (1,), (0,), ()), ((), (1,), (), ()))
        self.yes(("one quotient", text, (), (), (0,), (0,)), ((0,), (), (), ()))
        self.yes(("one quotient", text, (0, 1, 0), (1,), (1, 0), ()), ((), (1,), (("swap", 0),), ()))
        self.no(("one quotient", text, (0, 1, 0), (0,), (1, 0), ()), ((), (1,), (("swap", 0),), ()))
        self.no(("one quotient", text, (0,), (), (1,), ()), ((), (), (), ()))
        self.no(("one quotient", text, (0, 1), (1,), (0,), ()), ((), (1,), ()))
        self.no(("one quotient", text, (0, 0), (), (), ()), ((), (), (("drop", 0),), ()))
        self.yes(("one quotient", RING.text, (0, 2), (1, 2), (0,), (1,)), ((), (2,), (), ()))
        behind = (0, 1, 0) * 20
        self.yes(("one quotient", text, behind, behind, (), ()), ((), behind, (), ()))
        self.yes(("one quotient", text, behind, behind, (), ()), (behind, behind * 2, (), ()))
        self.no(("one quotient", text, behind, behind, (), ()), (behind * 2 + (0,), behind * 3 + (0,), (), ()))
        self.yes(("one quotient", text, behind, (), behind, ()), (behind, behind, (("swap", 0), ("swap", 0)), ()))
        # Words between steps have at most 120 buttons; with fewer than two steps there are none.
        further, (one, other) = behind + (0,), ((("swap", 0),), (("swap", 0), ("swap", 0)))
        self.yes(("one quotient", text, behind, (), behind, ()), (further, further, (), ()))
        self.yes(("one quotient", text, behind, (), (1, 0, 1) + behind[3:], ()), (further, further, one, ()))
        self.no(("one quotient", text, behind, (), behind, ()), (further, further, other, ()))

    def test_orders(self):
        rng = chance(352)
        for _ in range(80):
            table = Table(random_ties(rng, rng.randrange(1, 4), (2, 3, 4, 0, 5)))
            word = random_word(rng, table.size, rng.randrange(6))
            order = order_of(Change(table, word))
            for n in range(-1, 12):
                self.assertIs(accepts(("order", table.text, word, n), ()), n == order and n > 0)
            self.assertIs(accepts(("endless order", table.text, word), ()), order == 0)
        self.no(("order", A2.text, (), 1), ((),))
        self.no(("order", PAIR.text, (0, 1), 61), ())
        table = beside(beside(named("H2"), named("B2")), A2)
        self.yes(("order", table.text, (0, 1, 2, 3, 4, 5), 60), ())
        self.no(("endless order", table.text, (0, 1, 2, 3, 4, 5)), ())
        self.no(("order", table.text, (0, 1, 2, 3, 4, 5), 30), ())

    def test_mirrors(self):
        text = A2.text
        self.yes(("mirrors", text, (), 0), ())
        self.yes(("mirrors", text, (0, 1, 0), 1), (((0,), 1),))
        self.yes(("mirrors", text, (0, 1, 0), 1), (((1,), 0),))
        self.no(("mirrors", text, (0, 1, 0), 1), (((), 1),))
        self.yes(("mirrors", text, (0, 1), 2), (((), 0), ((), 1)))
        self.no(("mirrors", text, (0, 1), 2), (((), 1), ((), 0)))
        self.yes(("mirrors", text, (0, 1), 2), (((), 1), ((1,), 0)))
        # More mirrors than the shift tells, and none at all.
        self.no(("mirrors", text, (0,), 3), (((), 0), ((), 1), ((), 1)))
        self.no(("mirrors", text, (), 2), (((), 0), ((), 0)))
        self.no(("mirrors", text, (0, 1), 2), ())
        self.no(("mirrors", text, (), -1), ())
        self.no(("mirrors", text, (0,), 1), (((0, 0) * 61, 0),))
        self.yes(("mirrors", text, (0,), 1), (((0, 0) * 60, 0),))
        # In endless tables, too, where the shift is as great.
        self.yes(("mirrors", PAIR.text, (0, 1, 0), 1), (((0,), 1),))
        self.yes(("mirrors", chain((0, 0)).text, (0, 1, 2), 3), (((), 0), ((), 1), ((), 2)))
        self.no(("mirrors", PAIR.text, (0, 1), 2), (((), 0), ((), 1)))
        self.assertEqual(shift(Change(PAIR, (0, 1))), oracle.shift(PAIR.ties, (0, 1)))

    def test_carried_and_settled(self):
        rng = chance(353)
        for _ in range(150):
            table = Table(random_ties(rng, rng.randrange(1, 4)))
            word, other, by = (random_word(rng, table.size, rng.randrange(4)) for _ in range(3))
            carried = carried_by(Change(table, word), Change(table, by))
            if rng.randrange(2):
                other = carried.word
            self.assertIs(accepts(("carried", table.text, word, other), by), carried == Change(table, other))
            room = tuple(sorted(rng.sample(range(table.size), rng.randrange(table.size + 1))))
            fine = is_opposite(table, room)
            if fine and rng.randrange(2):
                other = carried_by(room_top(table, room), Change(table, by)).word
            expected = fine and carried_by(room_top(table, room), Change(table, by)) == Change(table, other)
            self.assertIs(accepts(("settled", table.text, other, room), by), expected)
        self.yes(("carried", A2.text, (0,), (0,)), (0, 0) * 60)
        self.no(("carried", A2.text, (0,), (0,)), (0, 0) * 61)
        self.yes(("settled", A2.text, (), ()), ())
        # The top of A2 is a flip, but A2 is not opposite.
        self.no(("settled", A2.text, (0, 1, 0), (0, 1)), ())
        self.yes(("settled", A2.text, (0, 1, 0), (0,)), (1,))
        self.no(("settled", PAIR.text, (), (0, 1)), ())
        self.yes(("settled", named("H4").text, top(named("H4")).word, (0, 1, 2, 3)), ())

    def test_balanced(self):
        table = named("A3")
        claim, _ = certify_balanced(Change(table, (1, 0, 2, 1)))
        text, word, terms = claim[1:]
        self.yes(claim, ())
        self.yes(("balanced", text, word, terms[::-1]), ())
        self.yes(("balanced", text, (0, 0) + word, tuple((held + (1, 1), laurent) for held, laurent in terms)), ())
        self.no(claim, ((),))
        self.no(("balanced", text, word, terms[:-1]), ())
        self.no(("balanced", text, word, terms[1:]), ())
        self.no(("balanced", text, word, terms + terms[:1]), ())
        self.no(("balanced", text, word, terms + ((terms[0][0] + (1, 1), terms[0][1]),)), ())
        self.no(("balanced", text, word, terms + (((0, 1, 2), "0"),)), ())
        self.no(("balanced", text, (1, 0, 2), terms), ())
        for at, (held, laurent) in enumerate(terms):
            for other in ("1q0", "1q0 1q1", "2q0", "-1q0", "1q-1 1q0", "1q0 1q2", "0", "", "1", "1q0 ", "1q1"):
                if other != laurent:
                    self.no(("balanced", text, word, terms[:at] + ((held, other),) + terms[at + 1:]), ())
        # Invariant, but not with bounded powers: the blend of the button 0 times that of the plain change.
        self.no(("balanced", A2.text, (0, 1), (((), "1q0"), ((0,), "1q0"), ((1,), "1q0"))), ())
        self.no(("balanced", A2.text, (0, 1, 0), tuple((held.word, "1q0" if held else "1q0 1q1") for held, _ in
                                                       balanced(top(A2)).terms)), ())
        self.no(("balanced", RING.text, (), (((), "1q0"),)), ())
        self.no(("balanced", named("A5").text, (), (((), "1q0"),)), ())
        self.yes(("balanced", named("B4").text, (), (((), "1q0"),)), ())
        self.yes(("balanced", named("A1").text, (0,), (((), "1q0"), ((0,), "1q0"))), ())
        self.no(("balanced", named("A1").text, (0,), (((), "1q0"), ((0,), "1q0"), ((0, 0, 0), "1q0"))), ())

    def test_numbers_of_terms(self):
        for name, fine in (("A4", True), ("H3", True), ("D4", False), ("B4", False)):
            table = named(name)
            # With the top, all weaves are 1.
            terms = tuple((change.word, "1q0") for change in beginnings(top(table)))
            self.assertEqual(len(terms) <= 120, fine)
            self.assertIs(accepts(("balanced", table.text, top(table).word, terms), ()), fine)

    def test_sums_of_balanced_blends_are_none(self):
        """C(w) and as much of a shorter C(z) is invariant only with a power of q; the bounds of the powers bar these."""
        for table in (A2, named("B2"), named("A3")):
            for word in ((0, 1, 0), (1, 0, 1)):
                change = Change(table, word)
                shorter = Change(table, word[:1])
                both = balanced(change) + balanced(shorter)
                # Of a length that is less by 2: q times C(z) has the same bar.
                made = balanced(change) + balanced(shorter) * letter(1)
                for blend in (both, made):
                    terms = tuple((held.word, laurent.text) for held, laurent in blend.terms)
                    self.no(("balanced", table.text, change.word, terms), ())
                self.assertEqual(made.barred, made * letter(-change.length))
                self.assertTrue(begins(shorter, change))


if __name__ == "__main__":
    unittest.main()
