"""Point 53 and the module benches."""

import unittest

import oracle
from oracle import CallCase, chance, odd_values, random_ties, random_word
from wallwalks.benches import Bench
from wallwalks.changes import Change, plain
from wallwalks.errors import InvalidDeed, InvalidWord, NotATable, NothingToUndo
from wallwalks.tables import Table, chain, named

RING = named("~A2")
WRONG_DEEDS = [
    ("behind",), ("behind", 3), ("behind", -1), ("front", True), ("front", "0"), ("back", 0), (0, "behind"), ("behind", 0, 0),
    ["behind", 0], ("front", None), ("", 0), (None, 0), ("behind", (0,)), "behind", ("Behind", 0), ("front", 10 ** 59),
]


class Stop(Exception):
    """What ends a trial badly."""


class Model:
    """A bench as the document tells it: its deeds, gone through from the plain change on each time."""

    def __init__(self, table):
        self.table = table
        self.deeds = []

    def word(self):
        word = ()
        for kind, s in self.deeds:
            word = word + (s,) if kind == "behind" else (s,) + word
        return word

    def home(self):
        return oracle.first_word(self.table.ties, self.word()[::-1])


class BenchCase(CallCase):
    def looks_like(self, bench, model):
        """All that a bench shows is what the model tells."""
        self.assertEqual(bench.table, model.table)
        self.assertEqual(bench.now, Change(model.table, oracle.first_word(model.table.ties, model.word())))
        self.assertEqual(bench.home, model.home())
        self.assertEqual(bench.log, tuple(model.deeds))
        self.assertEqual(len(bench), len(model.deeds))
        self.assertIs(bool(bench), True)

    def act(self, rng, bench, model):
        """Something by chance, done at both."""
        size = model.table.size
        choice = rng.randrange(6)
        if choice == 0:
            deed = (rng.choice(("behind", "front")), rng.randrange(size))
            self.assertIsNone(bench.do(deed))
            model.deeds.append(deed)
        elif choice == 1:
            deed = ("front", rng.randrange(size))
            self.assertIsNone(bench.do(deed=deed))
            model.deeds.append(deed)
        elif choice == 2:
            word = random_word(rng, size, rng.randrange(4))
            self.assertIsNone(bench.press(word) if rng.randrange(2) else bench.press(word=word))
            model.deeds += [("behind", s) for s in word]
        elif choice == 3 and rng.randrange(3) == 0:
            model.deeds += [("behind", s) for s in model.home()]
            self.assertIsNone(bench.go_home())
            self.assertEqual(bench.now, plain(model.table))
        elif model.deeds:
            self.assertIsNone(bench.undo())
            model.deeds.pop()


class BenchTest(BenchCase):
    def test_by_the_model(self):
        rng = chance(251)
        for _ in range(40):
            table = Table(random_ties(rng, rng.randrange(1, 5), rng.choice((oracle.TIES, (2, 3), (2, 3, 4)))))
            bench, model = Bench(table) if rng.randrange(2) else Bench(table=table), Model(table)
            self.looks_like(bench, model)
            for _ in range(14):
                self.act(rng, bench, model)
                self.looks_like(bench, model)
            while model.deeds:
                bench.undo()
                model.deeds.pop()
            self.looks_like(bench, model)
            self.assertRaises(NothingToUndo, bench.undo)

    def test_nothing_to_undo(self):
        bench = Bench(RING)
        self.refuses(NothingToUndo(), bench.undo)
        bench.press(())
        self.refuses(NothingToUndo(), bench.undo)
        bench.go_home()
        self.refuses(NothingToUndo(), bench.undo)
        bench.do(("front", 2))
        bench.undo()
        self.refuses(NothingToUndo(), bench.undo)

    def test_going_home_by_the_fewest_deeds(self):
        bench = Bench(named("H3"))
        bench.press((0, 1, 2, 2, 1, 2, 0, 1))
        length = bench.now.length
        self.assertEqual(len(bench.home), length)
        bench.go_home()
        self.assertEqual((bench.now.word, len(bench)), ((), 8 + length))
        bench.undo()
        self.assertEqual(bench.now.length, 1)

    def test_long_benches(self):
        bench = Bench(RING)
        for _ in range(4):
            bench.press((0, 1, 2) * 20)
        self.assertEqual((len(bench), bench.now.length, len(bench.home)), (240, 240, 240))
        bench.go_home()
        self.assertEqual((len(bench), bench.now), (480, plain(RING)))

    def test_equal_to_itself_alone(self):
        bench, other = Bench(RING), Bench(RING)
        self.assertIs(bench == bench, True)
        self.assertIs(bench == other, False)
        self.assertIs(bench != other, True)
        for value in odd_values() + [other]:
            self.assertIs(bench == value, False)
            self.assertIs(bench != value, True)

    def test_what_is_refused_leaves_all_as_it_was(self):
        for value in odd_values() + [plain(RING)]:
            self.refuses(NotATable(value), Bench, table=value)
        bench, model = Bench(RING), Model(RING)
        bench.press((0, 1))
        model.deeds = [("behind", 0), ("behind", 1)]
        for value in odd_values() + WRONG_DEEDS:
            self.refuses(InvalidDeed(value), bench.do, deed=value)
            self.looks_like(bench, model)
        words = [(value, None) for value in odd_values(but=(lambda v: type(v) is tuple,))]
        words += [((0, 3), 1), ((0, 1, True), 2), ((0, -1, 9), 1), ((0,) * 61, 60), ((0,) * 60 + (9,), 60), ((0, "x"), 1)]
        for value, index in words:
            self.refuses(InvalidWord(index), bench.press, word=value)
            self.looks_like(bench, model)
        bench.press((2,) * 60)
        self.assertEqual(len(bench), 62)


class TrialTest(BenchCase):
    def try_it(self, bench, model, rows):
        """Both by a `with` statement and by a function."""
        before = list(model.deeds)
        error = Stop("told")
        for _ in range(2):
            with self.assertRaises(Stop) as caught:
                with bench.trial() as held:
                    self.assertIs(held, bench)
                    rows(bench)
                    raise error
            self.assertIs(caught.exception, error)
            model.deeds = list(before)
            self.looks_like(bench, model)
        for call in (lambda action: bench.tried(action), lambda action: bench.tried(action=action)):
            def action(one):
                self.assertIs(one, bench)
                rows(one)
                raise error
            with self.assertRaises(Stop) as caught:
                call(action)
            self.assertIs(caught.exception, error)
            model.deeds = list(before)
            self.looks_like(bench, model)

    def test_trials_that_end_with_an_exception(self):
        rng = chance(252)
        bench, model = Bench(named("B3")), Model(named("B3"))
        bench.press((0, 1, 2, 1))
        model.deeds = [("behind", s) for s in (0, 1, 2, 1)]
        self.try_it(bench, model, lambda one: one.press((2, 2, 1)))
        self.try_it(bench, model, lambda one: one.go_home())
        self.try_it(bench, model, lambda one: [one.undo() for _ in range(4)])
        self.try_it(bench, model, lambda one: one.do(("front", 0)))
        for _ in range(6):
            self.try_it(bench, model, lambda one: [self.act(rng, one, model) for _ in range(8)])

    def test_trials_that_end_well(self):
        bench = Bench(RING)
        with bench.trial() as held:
            held.press((0, 1))
        self.assertEqual(bench.now.word, (0, 1))
        self.assertEqual(bench.tried(lambda one: (one.do(("front", 2)), len(one))), (None, 3))
        self.assertEqual(bench.tried(action=lambda one: None), None)
        bench.undo()
        self.assertEqual(bench.log, (("behind", 0), ("behind", 1)))
        with bench.trial():
            bench.undo()
        self.assertEqual(bench.log, (("behind", 0),))

    def test_errors_of_the_bench_within(self):
        bench = Bench(RING)
        bench.press((0, 1))
        for rows in (lambda one: one.do(("front", 3)), lambda one: one.press((0, 4)), lambda one: [one.undo() for _ in range(9)]):
            def action(one):
                one.press((2, 1))
                rows(one)
            self.assertRaises((InvalidDeed, InvalidWord, NothingToUndo), bench.tried, action)
            self.assertEqual((bench.now.word, len(bench)), ((0, 1), 2))

    def test_an_error_that_is_caught_within_leaves_all(self):
        bench = Bench(RING)
        with bench.trial():
            bench.press((0,))
            self.assertRaises(InvalidDeed, bench.do, None)
            bench.press((1,))
        self.assertEqual(bench.now.word, (0, 1))

    def test_a_call_alone_changes_nothing(self):
        bench = Bench(RING)
        waiting = bench.trial()
        bench.press((0, 1))
        self.assertEqual(bench.now.word, (0, 1))
        with self.assertRaises(Stop):
            with waiting:
                bench.press((2,))
                raise Stop
        # What counts is when the rows began.
        self.assertEqual(bench.now.word, (0, 1))
        with waiting:
            bench.press((2,))
        self.assertEqual(bench.now.word, (0, 1, 2))
        with self.assertRaises(Stop):
            with waiting:
                bench.go_home()
                raise Stop
        self.assertEqual(bench.now.word, (0, 1, 2))

    def test_trials_within_trials(self):
        bench = Bench(RING)
        with self.assertRaises(Stop):
            with bench.trial():
                bench.press((0,))
                with self.assertRaises(Stop):
                    with bench.trial():
                        bench.press((1,))
                        raise Stop
                self.assertEqual(bench.now.word, (0,))
                with bench.trial():
                    bench.press((2,))
                self.assertEqual(bench.now.word, (0, 2))
                raise Stop
        self.assertEqual((bench.now.word, len(bench)), ((), 0))
        with bench.trial():
            bench.press((0,))
            with self.assertRaises(Stop):
                with bench.trial():
                    bench.press((1,))
                    with bench.trial():
                        bench.press((2,))
                    raise Stop
            bench.press((1,))
        self.assertEqual(bench.now.word, (0, 1))

    def test_one_trial_within_itself(self):
        bench = Bench(RING)
        one = bench.trial()
        with self.assertRaises(Stop):
            with one:
                bench.press((0,))
                with self.assertRaises(Stop):
                    with one:
                        bench.press((1,))
                        raise Stop
                self.assertEqual(bench.now.word, (0,))
                with one:
                    bench.press((2,))
                raise Stop
        self.assertEqual(bench.now, plain(RING))

    def test_two_benches(self):
        left, right = Bench(RING), Bench(chain((3,)))
        with self.assertRaises(Stop):
            with left.trial():
                left.press((0,))
                right.press((1,))
                raise Stop
        self.assertEqual((left.now.word, right.now.word), ((), (1,)))


if __name__ == "__main__":
    unittest.main()
