"""Point 54, what wishes are and whether they hold, and the module wishes."""

import unittest

import oracle
from oracle import CallCase, chance, odd_values, random_word
from wallwalks.changes import Change, plain
from wallwalks.errors import InvalidPairs, InvalidWish, NotATable, UnknownName
from wallwalks.tables import beside, chain, named
from wallwalks.wishes import holds, is_wish, names_in

RING = named("~A2")
LONGEST = "abcdefghijkl"
GOOD = [
    ("same", "a", "b"), ("same", "a", "a"), ("product", "a", "b", "c"), ("product", "z", "z", "z"), ("inverse", "ab", LONGEST),
    ("commute", "x", "y"), ("begins", "x", "y"), ("under", "x", "y"), ("length", "a", 0), ("length", "a", 60),
    ("inside", "a", ()), ("inside", "a", (0, 2)), ("inside", "a", (0, 1, 2)), ("order", "a", 0), ("order", "a", 60),
]
BAD = [
    ("same", "a"), ("same", "a", "b", "c"), ("same",), ("product", "a", "b"), ("product", "a", "b", "c", "d"), ("inverse", "a", ""),
    ("commute", "a", "B"), ("begins", "a", "a1"), ("under", "a", "b "), ("under", "abcdefghijklm", "b"), ("length", "a", -1),
    ("length", "a", 61), ("length", "a", True), ("length", "a", False), ("length", "a", "3"), ("length", "a"), ("length", 3, "a"),
    ("length", "a", 3, 3), ("inside", "a", (3,)), ("inside", "a", (1, 0)), ("inside", "a", (0, 0)), ("inside", "a", [0]),
    ("inside", "a", (True,)), ("inside", "a", None), ("inside", "a", 0), ("inside", "a"), ("order", "a", 61), ("order", "a", None),
    ("order", "a", -1), ("order", "a", True), ["same", "a", "b"], ("Same", "a", "b"), ("", "a", "b"), (0, "a", "b"),
    ("same", "a", 0), ("same", ("a",), "b"), ("same", "a", None), ("unlike", "a", "b"), "same", ("length", "a", 10 ** 59),
    ("same", "a", "a b"), ("same", "a", "_"), ("inside", "a", ((0,),)), (("same", "a", "b"),),
]


def some_wishes(rng, table, names):
    """A wish by chance of each form."""
    many = {"same": 2, "product": 3, "inverse": 2, "commute": 2, "begins": 2, "under": 2}
    wishes = [(kind,) + tuple(rng.choice(names) for _ in range(k)) for kind, k in many.items()]
    room = tuple(sorted(rng.sample(range(table.size), rng.randrange(table.size + 1))))
    return wishes + [("length", rng.choice(names), rng.randrange(5)), ("inside", rng.choice(names), room),
                     ("order", rng.choice(names), rng.randrange(5))]


def is_so(wish, changes):
    """By the words of the document, with products and lengths alone."""
    kind, *rest = wish
    a, *others = [changes[name] for name in rest if isinstance(name, str)]
    if kind == "same":
        return a == others[0]
    if kind == "product":
        return a * others[0] == others[1]
    if kind == "inverse":
        return not a * others[0]
    if kind == "commute":
        return a * others[0] == others[0] * a
    if kind == "begins":
        return others[0].length == a.length + (a.inverse() * others[0]).length
    if kind == "length":
        return len(oracle.first_word(a.table.ties, a.word)) == rest[1]
    if kind == "inside":
        return set(a.word) <= set(rest[1])
    if kind == "order":
        powers = [k for k in range(1, 61) if not a.power(k)]
        return (powers[0] if powers else 0) == rest[1]
    left = [()]
    for s in others[0].word:
        left += [word + (s,) for word in left]
    return any(Change(a.table, word) == a for word in left)


class WishTest(CallCase):
    def test_forms(self):
        for wish in GOOD:
            self.assertIs(self.call(is_wish, table=RING, value=wish), True)
            names = tuple(name for name in wish[1:] if isinstance(name, str))
            self.assertEqual(self.call(names_in, table=RING, wish=wish), names)
        for value in BAD + odd_values():
            for _ in range(2):
                self.assertIs(is_wish(RING, value), False)
                self.assertIs(is_wish(table=RING, value=value), False)
            self.refuses(InvalidWish(value), names_in, table=RING, wish=value)
            self.refuses(InvalidWish(value), holds, wish=value, pairs=(("a", plain(RING)),))
        self.assertIs(is_wish(chain((3,)), ("inside", "a", (2,))), False)
        self.assertIs(is_wish(chain((3, 3)), ("inside", "a", (2,))), True)

    def test_wrong_tables(self):
        for value in odd_values() + [plain(RING)]:
            self.refuses(NotATable(value), is_wish, table=value, value=0)
            self.refuses(NotATable(value), names_in, table=value, wish=0)

    def test_what_holds(self):
        rng = chance(261)
        counts = {}
        for table in (RING, named("A3"), named("B2"), chain((0,)), beside(named("A2"), named("A1")), named("H3")):
            for _ in range(40):
                changes = {name: Change(table, random_word(rng, table.size, rng.randrange(5))) for name in ("a", "bb", "ccc")}
                if rng.randrange(2):
                    changes["bb"] = rng.choice((changes["a"], changes["a"].inverse(), changes["a"] * changes["ccc"]))
                if rng.randrange(3) == 0:
                    changes["ccc"] = changes["a"] * changes["bb"]
                for wish in some_wishes(rng, table, list(changes)):
                    expected = is_so(wish, changes)
                    found = self.call(holds, wish=wish, pairs=tuple(changes.items()))
                    self.assertIs(found, expected, wish)
                    counts.setdefault(wish[0], []).append(found)
        self.assertEqual(len(counts), 9)
        for kind, found in counts.items():
            self.assertTrue(5 < sum(found) < len(found) - 5, kind)

    def test_orders_and_lengths(self):
        pairs = (("a", Change(RING, (0, 1, 2))), ("b", Change(RING, (0, 1))), ("c", plain(RING)),
                 ("d", Change(RING, (0, 1, 2) * 20) ** 2))
        for wish, expected in ((("order", "a", 0), True), (("order", "b", 3), True), (("order", "b", 0), False),
                               (("order", "c", 1), True), (("order", "c", 0), False), (("length", "a", 3), True),
                               (("length", "c", 0), True), (("length", "d", 60), False), (("order", "d", 0), True)):
            self.assertIs(holds(wish, pairs), expected)

    def test_wrong_pairs(self):
        change, other = Change(RING, (0,)), Change(chain((3,)), (0,))
        for value in odd_values(but=(lambda v: type(v) is tuple and len(v) > 0,)) + [[("a", change)], {"a": change}]:
            self.refuses(InvalidPairs(None), holds, wish=("same", "a", "a"), pairs=value)
        for value in odd_values() + [("a",), ("A", change), ("", change), ("a", 0), ("a", change, change), ["a", change],
                                     ("a", RING), (change, "a"), ("abcdefghijklm", change), ("a", None)]:
            self.refuses(InvalidPairs(0), holds, wish=0, pairs=(value,))
            self.refuses(InvalidPairs(1), holds, wish=0, pairs=(("b", change), value, value))
        self.refuses(InvalidPairs(1), holds, wish=0, pairs=(("a", change), ("b", other)))
        self.refuses(InvalidPairs(2), holds, wish=0, pairs=(("a", change), ("b", change), ("a", change)))
        self.refuses(InvalidPairs(1), holds, wish=0, pairs=(("a", change), ("a", other)))

    def test_wishes_behind_pairs_and_by_their_table(self):
        pairs = (("a", Change(chain((3,)), (0,))),)
        self.refuses(InvalidWish(("inside", "a", (2,))), holds, wish=("inside", "a", (2,)), pairs=pairs)
        self.assertIs(holds(("inside", "a", (1,)), pairs), False)

    def test_unknown_names(self):
        pairs = (("a", plain(RING)), ("b", plain(RING)))
        for wish, name in ((("same", "a", "c"), "c"), (("product", "x", "y", "a"), "x"), (("product", "a", "y", "x"), "y"),
                           (("length", "d", 0), "d"), (("inside", "e", ()), "e"), (("order", LONGEST, 1), LONGEST)):
            self.refuses(UnknownName(name), holds, wish=wish, pairs=pairs)


if __name__ == "__main__":
    unittest.main()
