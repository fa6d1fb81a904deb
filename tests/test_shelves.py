"""Point 54, what shelves do, and the module shelves."""

import unittest

from oracle import CallCase, chance, odd_values, random_word
from test_wishes import BAD, some_wishes
from wallwalks.changes import Change, plain
from wallwalks.errors import (
    Broken, InUse, InvalidName, InvalidNumber, InvalidPairs, InvalidWish, NotAChange, NotATable, NothingToUndo, OtherTable,
    UnknownName,
)
from wallwalks.shelves import Shelf
from wallwalks.tables import chain, named
from wallwalks.wishes import holds, names_in

RING = named("~A2")
LONGEST = "abcdefghijkl"
WRONG_NAMES = ["A", "a1", "a ", " a", "abcdefghijklm", "a-b", "_", "aB", ("a",), ["a"], "~"]


class Stop(Exception):
    """What ends a trial badly."""


class Model:
    """A shelf as the document tells it; all that was there ahead of each deed is kept whole."""

    def __init__(self, table):
        self.table = table
        self.changes = {}
        self.wishes = []
        self.before = []

    def deed(self, changes, wishes):
        self.before.append((self.changes, self.wishes))
        self.changes, self.wishes = changes, wishes

    def broken(self, changes, wishes):
        pairs = tuple(changes.items())
        return next((at for at, wish in enumerate(wishes) if not holds(wish, pairs)), None)

    def put(self, pairs):
        changes = {**self.changes, **dict(pairs)}
        at = self.broken(changes, self.wishes)
        if at is None:
            self.deed(changes, self.wishes)
        return None if at is None else Broken(at)

    def drop(self, name):
        if name not in self.changes:
            return UnknownName(name)
        users = [at for at, wish in enumerate(self.wishes) if name in names_in(self.table, wish)]
        if users:
            return InUse(users[0])
        self.deed({key: change for key, change in self.changes.items() if key != name}, self.wishes)
        return None

    def wish(self, wish):
        unknown = [name for name in names_in(self.table, wish) if name not in self.changes]
        if unknown:
            return UnknownName(unknown[0])
        if not holds(wish, tuple(self.changes.items())):
            return Broken(len(self.wishes))
        self.deed(self.changes, self.wishes + [wish])
        return None

    def free(self, index):
        if not 0 <= index < len(self.wishes):
            return InvalidNumber(index)
        self.deed(self.changes, self.wishes[:index] + self.wishes[index + 1:])
        return None

    def undo(self):
        if not self.before:
            return NothingToUndo()
        self.changes, self.wishes = self.before.pop()
        return None


class ShelfCase(CallCase):
    def looks_like(self, shelf, model):
        """All that a shelf shows is what the model tells."""
        self.assertEqual(shelf.table, model.table)
        self.assertEqual(shelf.names, tuple(sorted(model.changes)))
        self.assertEqual(shelf.wishes, tuple(model.wishes))
        self.assertEqual(shelf.deeds, len(model.before))
        self.assertEqual(len(shelf), len(model.changes))
        self.assertIs(bool(shelf), True)
        for name in ("a", "b", "c", "dd", LONGEST):
            self.assertIs(name in shelf, name in model.changes)
            if name in model.changes:
                self.assertEqual(self.call(shelf.named, name=name), model.changes[name])
        if model.changes:
            self.assertTrue(all(holds(wish, tuple(model.changes.items())) for wish in shelf.wishes))

    def does(self, expected, function, **arguments):
        """The call does, by position or by name, or raises the error that is expected."""
        if expected is None:
            self.assertIsNone(function(*arguments.values()) if len(str(arguments)) % 2 else function(**arguments))
            return
        self.refuses(expected, function, **arguments)

    def act(self, rng, shelf, model):
        """Something by chance, done at both."""
        names = ("a", "b", "c", "dd")
        size = model.table.size
        choice = rng.randrange(9)
        change = Change(model.table, random_word(rng, size, rng.randrange(3)))
        if choice < 2:
            name = rng.choice(names)
            self.does(model.put(((name, change),)), shelf.put, name=name, change=change)
        elif choice == 2:
            some = rng.sample(names, rng.randrange(4))
            pairs = tuple((name, rng.choice((change, Change(model.table, random_word(rng, size, 1))))) for name in some)
            self.does(model.put(pairs), shelf.put_all, pairs=pairs)
        elif choice == 3:
            name = rng.choice(names)
            self.does(model.drop(name), shelf.drop, name=name)
        elif choice < 7:
            wish = rng.choice(some_wishes(rng, model.table, names))
            self.does(model.wish(wish), shelf.wish, wish=wish)
        elif choice == 7:
            index = rng.randrange(3)
            self.does(model.free(index), shelf.free, index=index)
        else:
            self.does(model.undo(), shelf.undo)


class ShelfTest(ShelfCase):
    def test_by_the_model(self):
        rng = chance(271)
        wishes = 0
        for round_at in range(60):
            table = rng.choice((RING, named("A2"), named("B2"), chain((2, 3)), named("A1")))
            shelf, model = (Shelf(table), Model(table)) if round_at % 2 else (Shelf(table=table), Model(table))
            self.looks_like(shelf, model)
            for _ in range(25):
                self.act(rng, shelf, model)
                self.looks_like(shelf, model)
            wishes += len(model.wishes)
            while model.before:
                shelf.undo()
                model.undo()
                self.looks_like(shelf, model)
            self.refuses(NothingToUndo(), shelf.undo)
        self.assertGreater(wishes, 60)

    def test_putting(self):
        shelf = Shelf(RING)
        shelf.put("b", Change(RING, (0, 1)))
        shelf.put(LONGEST, plain(RING))
        shelf.put(name="b", change=Change(RING, (2,)))
        self.assertEqual((shelf.names, shelf.named("b").word, shelf.deeds, len(shelf)), ((LONGEST, "b"), (2,), 3, 2))
        shelf.put_all(())
        self.assertEqual((shelf.deeds, len(shelf)), (4, 2))
        shelf.put_all((("z", Change(RING, (1,))), ("b", Change(RING, (0,)))))
        self.assertEqual((shelf.names, shelf.named("b").word, shelf.deeds), ((LONGEST, "b", "z"), (0,), 5))
        shelf.undo()
        self.assertEqual((shelf.names, shelf.named("b").word, shelf.deeds), ((LONGEST, "b"), (2,), 4))

    def test_first_broken_wish(self):
        shelf = Shelf(RING)
        shelf.put_all((("a", Change(RING, (0,))), ("b", Change(RING, (0,))), ("c", Change(RING, (1,)))))
        shelf.wish(("length", "c", 1))
        shelf.wish(("same", "a", "b"))
        shelf.wish(("order", "b", 2))
        shelf.wish(("length", "b", 1))
        for name, word, index in (("a", (1,), 1), ("b", (1,), 1), ("c", (1, 0), 0), ("b", (0, 1), 1)):
            self.refuses(Broken(index), shelf.put, name=name, change=Change(RING, word))
        self.refuses(Broken(2), shelf.put_all, pairs=(("a", plain(RING)), ("b", plain(RING))))
        self.refuses(Broken(0), shelf.put_all, pairs=(("a", plain(RING)), ("c", plain(RING))))
        shelf.put_all((("a", Change(RING, (2,))), ("b", Change(RING, (2,)))))
        self.assertEqual(shelf.deeds, 6)
        self.refuses(Broken(4), shelf.wish, wish=("same", "a", "c"))
        self.refuses(Broken(4), shelf.wish, wish=("inside", "a", (0, 1)))

    def test_wishes_more_than_once_and_freed(self):
        shelf = Shelf(RING)
        shelf.put("a", Change(RING, (0, 1)))
        for wish in (("length", "a", 2), ("order", "a", 3), ("length", "a", 2), ("inside", "a", (0, 1))):
            shelf.wish(wish=wish)
        shelf.free(0)
        self.assertEqual(shelf.wishes, (("order", "a", 3), ("length", "a", 2), ("inside", "a", (0, 1))))
        shelf.undo()
        self.assertEqual(shelf.wishes[0], ("length", "a", 2))
        shelf.free(index=1)
        self.assertEqual(shelf.wishes, (("length", "a", 2), ("length", "a", 2), ("inside", "a", (0, 1))))
        self.refuses(Broken(0), shelf.put, name="a", change=plain(RING))
        shelf.free(0)
        shelf.free(0)
        self.refuses(Broken(0), shelf.put, name="a", change=Change(RING, (2,)))
        shelf.put("a", plain(RING))
        self.refuses(InUse(0), shelf.drop, name="a")
        shelf.free(0)
        shelf.drop(name="a")
        self.assertEqual((shelf.names, shelf.wishes, len(shelf)), ((), (), 0))
        self.refuses(UnknownName("a"), shelf.drop, name="a")

    def test_equal_to_itself_alone(self):
        shelf, other = Shelf(RING), Shelf(RING)
        self.assertIs(shelf == shelf, True)
        self.assertIs(shelf == other, False)
        self.assertIs(shelf != other, True)
        for value in odd_values() + [other]:
            self.assertIs(shelf == value, False)
            self.assertIs(shelf != value, True)


class RefusalTest(ShelfCase):
    def setUp(self):
        self.shelf, self.model = Shelf(RING), Model(RING)
        for pair in (("a", Change(RING, (0, 1))), ("b", Change(RING, (2,)))):
            self.shelf.put(*pair)
            self.model.put((pair,))
        self.shelf.wish(("length", "a", 2))
        self.model.wish(("length", "a", 2))

    def tearDown(self):
        self.looks_like(self.shelf, self.model)

    def test_wrong_tables(self):
        for value in odd_values() + [plain(RING)]:
            self.refuses(NotATable(value), Shelf, table=value)

    def test_wrong_names(self):
        for value in odd_values(but=(lambda v: v in ("x",) if isinstance(v, str) else False,)) + WRONG_NAMES:
            self.refuses(InvalidName(value), self.shelf.put, name=value, change=0)
            self.refuses(UnknownName(value), self.shelf.named, name=value)
            self.refuses(UnknownName(value), self.shelf.drop, name=value)
            self.assertIs(value in self.shelf, False)
        for value in ("x", "c", LONGEST):
            self.refuses(UnknownName(value), self.shelf.named, name=value)
            self.refuses(UnknownName(value), self.shelf.drop, name=value)
            self.assertIs(value in self.shelf, False)

    def test_wrong_changes(self):
        for value in odd_values() + [RING]:
            self.refuses(NotAChange(value), self.shelf.put, name="x", change=value)
        for table in (chain((3,)), named("~A3")):
            self.refuses(OtherTable(), self.shelf.put, name="a", change=plain(table))

    def test_wrong_pairs(self):
        change = Change(RING, (1,))
        for value in odd_values(but=(lambda v: type(v) is tuple,)) + [[("a", change)], {"a": change}]:
            self.refuses(InvalidPairs(None), self.shelf.put_all, pairs=value)
        for value in odd_values() + [("x",), ("X", change), ("x", 0), ("x", change, change), ["x", change], ("x", RING),
                                     ("x", Change(chain((3,)), (1,)))]:
            self.refuses(InvalidPairs(0), self.shelf.put_all, pairs=(value,))
            self.refuses(InvalidPairs(1), self.shelf.put_all, pairs=(("y", change), value, value))
        self.refuses(InvalidPairs(2), self.shelf.put_all, pairs=(("x", change), ("a", plain(RING)), ("x", change)))

    def test_wrong_wishes(self):
        for value in odd_values() + BAD:
            self.refuses(InvalidWish(value), self.shelf.wish, wish=value)
        self.refuses(UnknownName("c"), self.shelf.wish, wish=("same", "c", "d"))
        self.refuses(UnknownName("d"), self.shelf.wish, wish=("product", "a", "d", "c"))
        self.refuses(Broken(1), self.shelf.wish, wish=("same", "a", "b"))

    def test_wrong_indexes(self):
        for value in odd_values() + [1, 2]:
            self.refuses(InvalidNumber(value), self.shelf.free, index=value)
        self.refuses(InvalidNumber(0), Shelf(RING).free, index=0)

    def test_what_is_in_use(self):
        self.refuses(InUse(0), self.shelf.drop, name="a")
        for wish in (("commute", "b", "b"), ("same", "b", "b"), ("product", "a", "b", "b")):
            if wish[0] != "product":
                self.shelf.wish(wish)
                self.model.wish(wish)
        self.refuses(InUse(1), self.shelf.drop, name="b")
        self.refuses(InUse(0), self.shelf.drop, name="a")


class TrialTest(ShelfCase):
    def try_it(self, shelf, model, rows):
        """Both by a `with` statement and by a function."""
        before = (model.changes, model.wishes, list(model.before))
        error = Stop("told")

        def action(one):
            self.assertIs(one, shelf)
            rows(one)
            raise error

        def stated():
            with shelf.trial() as held:
                action(held)

        for call in (stated, lambda: shelf.tried(action), lambda: shelf.tried(action=action)):
            with self.assertRaises(Stop) as caught:
                call()
            self.assertIs(caught.exception, error)
            model.changes, model.wishes, model.before = before[0], before[1], list(before[2])
            self.looks_like(shelf, model)

    def test_trials_that_end_with_an_exception(self):
        rng = chance(272)
        for _ in range(25):
            shelf, model = Shelf(RING), Model(RING)
            for _ in range(8):
                self.act(rng, shelf, model)
            self.try_it(shelf, model, lambda one: [self.act(rng, one, model) for _ in range(8)])
            self.act(rng, shelf, model)
            self.looks_like(shelf, model)

    def test_trials_that_end_well(self):
        shelf = Shelf(RING)
        with shelf.trial() as held:
            self.assertIs(held, shelf)
            held.put("a", plain(RING))
        self.assertEqual(shelf.tried(lambda one: (one.put("b", plain(RING)), one.deeds)), (None, 2))
        # Each deed of a trial stays one of its own.
        shelf.undo()
        self.assertEqual((shelf.names, shelf.deeds), (("a",), 1))

    def test_trials_within_trials_and_errors_within(self):
        shelf = Shelf(RING)
        shelf.put("a", Change(RING, (0,)))
        with shelf.trial():
            shelf.wish(("length", "a", 1))
            with self.assertRaises(Broken):
                with shelf.trial():
                    shelf.put("b", plain(RING))
                    shelf.put("a", plain(RING))
            self.assertEqual((shelf.names, shelf.deeds), (("a",), 2))
            shelf.put("c", plain(RING))
        self.assertEqual((shelf.names, shelf.wishes, shelf.deeds), (("a", "c"), (("length", "a", 1),), 3))
        with self.assertRaises(NothingToUndo):
            with shelf.trial():
                for _ in range(9):
                    shelf.undo()
        self.assertEqual((shelf.names, shelf.wishes, shelf.deeds), (("a", "c"), (("length", "a", 1),), 3))

    def test_a_call_alone_changes_nothing(self):
        shelf = Shelf(RING)
        waiting = shelf.trial()
        shelf.put("a", plain(RING))
        with self.assertRaises(Stop):
            with waiting:
                shelf.drop("a")
                raise Stop
        self.assertEqual((shelf.names, shelf.deeds), (("a",), 1))


if __name__ == "__main__":
    unittest.main()
