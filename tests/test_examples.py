"""The examples that the document prints, as they stand there: each block goes on from those ahead of it."""

import unittest

GOLDENS = """
>>> from wallwalks.goldens import Golden, golden
>>> x = Golden(-1, 1)
>>> [(x * x).text, (x * Golden(0, 1)).text, (2 - x).text, x.sign, Golden(-2, 1).sign, x.is_below(1), (Golden(0, 1) ** 3).text, Golden.read("0-1g").gold, golden(3).text]
['2-1g', '1', '3-1g', 1, -1, True, '1+2g', -1, '3']
>>> Golden(True)
raises InvalidNumber(given=True)
"""

CHANGES = """
>>> from wallwalks.changes import Change, least_words, parting, plain
>>> from wallwalks.tables import Table, chain, likeness, named, part
>>> t = chain((3, 4))
>>> w = Change(t, (2, 1, 2, 1, 0, 0))
>>> [w.word, w.length, w.fronts, w.backs, (w * Change(t, (2,))).word, w.inverse() == w, w.parity, bool(plain(t))]
[(1, 2, 1, 2), 4, (1, 2), (1, 2), (1, 2, 1), True, 0, False]
>>> images = Change(chain((4,)), (0, 1)).images
>>> [images[0][0].text, images[0][1].text, images[1][0].text, images[1][1].text]
['1', '2', '-1', '-1']
>>> [least_words(Change(chain((3, 3)), (0, 2, 1))), parting(w, plain(t)), t.text, likeness(named("B3"), chain((4, 3))), part(t, (0, 2)).pieces]
[((0, 2, 1), (2, 0, 1)), 0, 'table: 1 3 2; 3 1 4; 2 4 1', (2, 1, 0), ((0,), (1,))]
"""

COUNTS = """
>>> from wallwalks.counts import counts, growth, how_many_at, how_many_by, room_polynomial, speed
>>> from wallwalks.ends import climbing, degrees, how_many, kinds, names, top
>>> ring, free = named("~A2"), Table(((1, 0, 0), (0, 1, 0), (0, 0, 1)))
>>> [growth(ring), counts(ring, 5), growth(free), how_many_at(free, 5), how_many_by(free, 10 ** 18, 5), speed(ring), speed(free), speed(t)]
[((1, 1, 1), (1, -2, 1)), (1, 3, 6, 9, 12), ((1, 1), (1, -2)), 48, 4, ('power', 2), ('faster', 0), ('ends', 48)]
>>> [kinds(free), names(t), how_many(t), degrees(t), top(t).length, climbing(ring), room_polynomial(t, (0, 1))]
[('wild',), ('B3',), 48, (2, 4, 6), 9, (0, 1, 2), (1, 2, 2, 1)]
"""

WALLS = """
>>> from wallwalks.tables import Table, chain, named
>>> from wallwalks.walls import Wall, meeting, standing, walls_at
>>> ring, square, two, pair, apart = named("~A2"), chain((4,)), chain((3,)), chain((0,)), chain((2,))
>>> x, y = Wall(ring, (), 2), Wall(ring, (0,), 1)
>>> [y.depth, y.road, y.mirror.word, meeting(x, y), standing(x, y), standing(Wall(ring, (0, 1), 2), Wall(ring, (), 0)), len(walls_at(ring, 2)), len(walls_at(ring, 3))]
[2, ((0,), 1), (0, 1, 0), 0, 'facing', 'behind', 3, 3]
>>> [meeting(Wall(square, (), 0), Wall(square, (1,), 0)), meeting(Wall(square, (), 0), Wall(square, (), 1)), Wall(square, (1,), 0).axis[1].text, Wall(square, (1,), 0).column[1].text]
[2, 4, '2', '1']
"""

CROSSINGS = """
>>> from wallwalks.changes import Change
>>> from wallwalks.crossings import crossed, crossing, passed, place_of
>>> long_one = Change(ring, (0, 1, 0))
>>> [crossed(long_one)[1].road, crossed(long_one)[2].road, place_of(long_one, Wall(ring, (), 1)), passed(ring, (0, 1, 0, 1))[3] == Wall(ring, (), 0)]
[((0,), 1), ((), 1), 2, True]
>>> [crossing(ring, (Wall(ring, (), 0), Wall(ring, (), 1))), crossing(ring, (Wall(ring, (0,), 1), Wall(ring, (), 0))).word]
[None, (0, 1)]
"""

MACHINES = """
>>> from wallwalks.machines import change_at, far_alike, far_lots, first_reader, least_reader, number_of, walls_small
>>> reader = least_reader(pair)
>>> [reader.states, reader.leads, reader.how_many(3), reader.reads((0, 1, 1)), len(walls_small(ring)), len(least_reader(ring))]
[((), (0,), (1,)), ((1, 2), (None, 2), (1, None)), 2, False, 6, 16]
>>> [number_of(Change(pair, (1, 0))), change_at(pair, 5).word, far_lots(long_one), far_alike(apart, (0, 1, 0), (0, 0, 1)), first_reader(apart).reads((1, 0))]
[4, (0, 1, 0), ((0, 1, 0), (1, 0, 1)), True, False]
"""

ROOMS = """
>>> from wallwalks.rooms import gate, hull, own_room, shortest, split_behind, split_double
>>> one_way, longest = Change(two, (0, 1)), Change(two, (0, 1, 0))
>>> [split_behind(one_way, (1,))[0].word, gate(Change(two, ()), one_way, (0,)).word, hull((one_way, Change(two, (0,))))[0].word, hull((one_way, Change(two, (0,))))[1], own_room(Change(ring, (2, 0, 2)))]
[(0,), (0,), (0,), (1,), (0, 2)]
>>> parts = split_double(longest, (0,), (0,))
>>> [parts[0].word, parts[1].word, parts[2].word, len(shortest(two, (0,), 2)), shortest(two, (0,), 2)[0].word]
[(0,), (1,), (0,), 1, (0, 1)]
"""

CARRYING = """
>>> from wallwalks.carrying import carrying, is_carried, kin, room_moves
>>> [kin(two, (0,)), kin(square, (0,)), room_moves(two, (0,))[0][1], room_moves(two, (0,))[0][2].word, room_moves(square, (0,))[0][1], room_moves(square, (0,))[0][2].word, room_moves(pair, (0,))]
[((0,), (1,)), ((0,),), (1,), (0, 1), (0,), (1, 0, 1), ()]
>>> [is_carried(one_way, (0,), (1,)), carrying(square, (0,), (1,))]
[True, None]
"""

FRONTS = """
>>> from wallwalks.fronts import beginnings, common_end, common_front, facing_pair, least_continuation
>>> [common_front(Change(ring, (0, 1)), Change(ring, (0, 2))).word, least_continuation(Change(ring, (0, 1)), Change(ring, (0, 2)), 9).word, least_continuation(Change(ring, (0, 1)), Change(ring, (0, 2)), 3), facing_pair(Change(ring, (2,)), Change(ring, (0, 1)))[1].road]
[(0,), (0, 1, 2, 1), None, ((0,), 1)]
>>> [common_end(Change(two, (0,)), Change(two, (1,))).word, len(beginnings(longest)), least_continuation(Change(pair, (0,)), Change(pair, (1,)), 60), facing_pair(Change(pair, (0,)), Change(pair, (1,)))[0].road]
[(0, 1, 0), 6, None, ((), 0)]
"""

SUBWORDS = """
>>> from wallwalks.subwords import all_under, between, covered, is_under, shortening, sticky
>>> pairs = shortening(Change(two, (1,)), one_way)
>>> [len(pairs), pairs[1][0].word, pairs[1][1].word, is_under(Change(two, (1, 0)), one_way), sticky(two, (0, 0, 1)).word, len(all_under(longest))]
[3, (), (0,), False, (0, 1), 6]
>>> lot = between(Change(two, (0,)), longest)
>>> [len(lot), lot[1].word, lot[2].word, covered(one_way)[0].word, covered(one_way)[1].word]
[4, (0, 1), (1, 0), (0,), (1,)]
"""

LAURENTS = """
>>> from wallwalks.laurents import Laurent, letter
>>> x = Laurent(-1, (1, 0, -2))
>>> [x.text, x.barred.text, x.total, (x + 2).text, (Laurent(0, (1, 1)) ** 2).coefficients, Laurent(0, (0, 3, 0)).lowest, (letter(2) * letter(-3)).text, Laurent(0, ()).text]
['1q-1 -2q1', '-2q-1 1q1', -1, '1q-1 2q0 -2q1', (1, 2, 1), 1, '1q-1', '0']
"""

SUMS = """
>>> from wallwalks.changes import Change, plain
>>> from wallwalks.sums import single, single_inverse
>>> from wallwalks.tables import chain, named
>>> t = named("A2")
>>> s = single(Change(t, (0,)))
>>> twice = (s * s).terms
>>> undone = single_inverse(Change(t, (0,)))
>>> [len(twice), twice[0][0].word, twice[0][1].text, twice[1][0].word, twice[1][1].text, undone.terms[0][1].text, undone.terms[1][1].text, s * undone == single(plain(t)), (s * 2).at(Change(t, (0,))).text]
[2, (), '1q1', (0,), '-1q0 1q1', '1q-1 -1q0', '1q-1', True, '2q0']
>>> single(plain(named("~A2")))
raises NotFinite()
"""

PAIRS = """
>>> from wallwalks.pairs import balanced, gap, link, weave
>>> u = named("A3")
>>> w = Change(u, (1, 0, 2, 1))
>>> [gap(plain(t), Change(t, (0, 1))).text, gap(plain(t), Change(t, (0, 1, 0))).text, weave(Change(u, (1,)), w).text, link(Change(u, (1,)), w), weave(Change(u, (0,)), w).text, weave(w, plain(u)).text]
['1q0 -2q1 1q2', '-1q0 2q1 -2q2 1q3', '1q0 1q1', 1, '1q0', '0']
>>> made = balanced(Change(t, (0, 1))).terms
>>> [len(made), made[0][1].text, made[2][0].word, made[3][0].word, made[3][1].text]
[4, '1q0', (1,), (0, 1), '1q0']
"""

POSITIVES = """
>>> from wallwalks.positives import Positive, grains, shared_continuation, shared_front, without_front
>>> x, y = Positive(t, (0, 1, 0, 1)), Positive(t, (1, 0))
>>> [x.word, x == Positive(t, (1, 0, 1, 1)), x.backs, grains(x)[0].word, grains(x)[1].word, without_front(x, y).word, shared_front(y, Positive(t, (0, 1))).word, shared_continuation(y, Positive(t, (0,)), 3).word, shared_continuation(y, Positive(t, (0,)), 2)]
[(0, 0, 1, 0), True, (0, 1), (0, 1, 0), (1,), (1, 1), (), (0, 1, 0), None]
"""

QUOTIENTS = """
>>> from wallwalks.quotients import quotient_of, shadow, top_form
>>> a = quotient_of(t, (1, -2))
>>> [a.dividend.word, a.divisor.word, (a * a.inverse()).signed, (a * quotient_of(t, (2, 1))).signed, top_form(quotient_of(t, (-1,)))[0], top_form(quotient_of(t, (-1,)))[1][0].word, quotient_of(t, (1, 2, 1)) == quotient_of(t, (2, 1, 2)), shadow(a).word, quotient_of(t, (-1, 2)).signed]
[(0,), (1,), (), (1, 1), -1, (0, 1), True, (0, 1), (2, 1, -2, -1)]
"""

TURNS = """
>>> from wallwalks.turns import carrier, class_of, classes, kept, order_of, shift
>>> [order_of(Change(t, (0, 1))), order_of(Change(named("~A2"), (0, 1, 2))), order_of(plain(t)), shift(Change(t, (0, 1, 0))), shift(Change(t, (0, 1))), kept(Change(t, (0, 1))), len(kept(Change(t, (0,))))]
[3, 0, 1, 1, 2, (), 1]
>>> [len(classes(t)), classes(t)[1].word, classes(t)[2].word, len(class_of(Change(t, (1,)))), class_of(Change(t, (1,)))[2].word, carrier(Change(t, (0,)), Change(t, (0, 1)))]
[3, (0,), (0, 1), 3, (0, 1, 0), None]
"""

UNDOING = """
>>> from wallwalks.undoing import flip_carrier, flips, is_opposite, opposite_rooms, settled
>>> [opposite_rooms(u), is_opposite(named("~A1"), (0, 1)), len(settled(Change(t, (0, 1, 0)))[1]), len(flips(u)), flip_carrier(Change(named("~A1"), (0,)), Change(named("~A1"), (1,)))]
[((), (0,), (1,), (2,), (0, 2)), False, 1, 10, None]
"""

CARDS = """
>>> from wallwalks.cards import cards_table, change_for, is_deal_under, deal_counts, deal_for, deal_length
>>> [deal_for(Change(t, (0, 1))), change_for((2, 0, 1)).word, deal_length((2, 1, 0)), deal_counts((1, 0)), is_deal_under((1, 0, 2), (1, 2, 0)), is_deal_under((0, 2, 1), (1, 0, 2)), cards_table(3) == t]
[(1, 2, 0), (1, 0), 3, ((1, 1), (2, 1)), True, False, True]
"""

SIGNEDCARDS = """
>>> from wallwalks.signedcards import is_signed_under, signed_change, signed_for, signed_length, signed_table, spread
>>> [signed_for(Change(signed_table(2), (0, 1))), signed_change((-1, -2)).word, signed_length((2, -1)), spread((2, -1)), is_signed_under((-1, 2), (2, 1)), signed_table(3).text]
[(2, -1), (0, 1, 0, 1), 2, (1, -2, 2, -1), False, 'table: 1 4 2; 4 1 3; 2 3 1']
"""

RINGCARDS = """
>>> from wallwalks.ringcards import is_ring_under, deal_of_throws, ring_change, ring_for, ring_length, ring_table, throws
>>> [ring_for(Change(ring_table(3), (2,))), ring_length((-1, 1, 3)), ring_change((-1, 1, 3)).word, throws((-1, 1, 3), 1), deal_of_throws((4, 4, 1)), is_ring_under((1, 0, 2), (-1, 1, 3))]
[(-1, 1, 3), 1, (2,), (0, 1, 2), ((1, 2, 0), 3), False]
>>> throws((-1, 1, 3), 0)
raises TooFew(given=-1)
"""

SHELVES = """
>>> from wallwalks.benches import Bench
>>> from wallwalks.shelves import Shelf
>>> from wallwalks.wishes import holds
>>> a3 = chain((3, 3))
>>> bench = Bench(a3)
>>> bench.press((0, 1, 2))
>>> bench.do(("front", 1))
>>> [bench.now.word, bench.home, len(bench), bench.log[3], bench.undo(), bench.now.word, bench.go_home(), bench.now.word, len(bench)]
[(0, 1, 0, 2), (0, 2, 1, 0), 4, ('front', 1), None, (0, 1, 2), None, (), 6]
>>> shelf = Shelf(a3)
>>> shelf.put_all((("a", Change(a3, (0, 1))), ("b", Change(a3, (1, 0)))))
>>> shelf.wish(("inverse", "a", "b"))
>>> shelf.wish(("order", "a", 3))
>>> [shelf.names, shelf.deeds, "a" in shelf, shelf.named("a").word, holds(("under", "a", "b"), (("a", Change(a3, (0,))), ("b", Change(a3, (1, 0)))))]
[('a', 'b'), 3, True, (0, 1), True]
>>> shelf.put("b", Change(a3, (1,)))
raises Broken(index=0)
"""

CERTIFICATES = """
>>> from wallwalks.certificates import certify_rooms_carried, certify_continuation, certify_small, certify_under
>>> from wallwalks.checker import accepts
>>> [certify_small(pair), certify_rooms_carried(square, (0,), (1,))[0][0], certify_under(Change(two, (1, 0)), one_way), certify_continuation(Change(pair, (0,)), Change(pair, (1,)), 9)]
[(('small walls', 'table: 1 0; 0 1', 2), (((), 0), ((), 1))), 'rooms not carried', (('not under', 'table: 1 3; 3 1', (1, 0), (0, 1)), ()), (('no continuation', 'table: 1 0; 0 1', (0,), (1,)), ((), 0, (), 1))]
>>> [accepts(("rooms carried", "table: 1 3; 3 1", (0,), (1,)), (0, 1)), accepts(("rooms not carried", "table: 1 4; 4 1", (0,), (1,)), (((0,), (("move", (0, 1, 0, 1)),)),)), accepts(("meeting", "table: 1 4; 4 1", (), 0, (1,), 0, 2), ())]
[True, True, True]
"""

BLOCKS = (
    GOLDENS, CHANGES, COUNTS, WALLS, CROSSINGS, MACHINES, ROOMS, CARRYING, FRONTS, SUBWORDS, LAURENTS, SUMS, PAIRS, POSITIVES,
    QUOTIENTS, TURNS, UNDOING, CARDS, SIGNEDCARDS, RINGCARDS, SHELVES, CERTIFICATES,
)


def told_of(error):
    """An error as the document writes it."""
    attributes = ", ".join(f"{name}={value!r}" for name, value in vars(error).items())
    return f"raises {type(error).__name__}({attributes})"


def done(line, names):
    """What a line shows when it is done, None if it shows nothing."""
    try:
        value = eval(line, names)
    except SyntaxError:
        exec(line, names)
        return None
    except Exception as error:
        return told_of(error)
    return None if value is None else repr(value)


class ExampleTest(unittest.TestCase):
    def test_blocks(self):
        names = {}
        for block in BLOCKS:
            lines = block.strip().split("\n")
            for at, line in enumerate(lines):
                if line.startswith(">>> "):
                    behind = lines[at + 1] if at + 1 < len(lines) else ">>> "
                    expected = None if behind.startswith(">>> ") else behind
                    self.assertEqual(done(line[4:], names), expected, line)


if __name__ == "__main__":
    unittest.main()
