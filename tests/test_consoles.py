"""The module consoles."""

import unittest

from oracle import CallCase, chance, odd_values, random_word
from wallwalks.benches import Bench
from wallwalks.changes import Change
from wallwalks.consoles import Console
from wallwalks.errors import InvalidLine, NotABench, NothingToUndo
from wallwalks.tables import chain, named

RING = named("~A2")
WRONG_LINES = [
    "", " ", "now ", " now", "Now", "press", "press ", "press  0", "press 0  1", "press 3", "press 0 3", "press 01", "press 0,1",
    "press - 0", "press x", "press -1", "press " + " ".join("0" * 61), "front", "front ", "front -", "front 3", "front 0 1",
    "front  0", "front 00", "front x", "home ", "home 0", "undo 1", "way", "home way", "way  home", "way home ", "wayhome", "same",
    "same ", "same 4", "same 0 ", "same -0", "fronts 0", "length 0", "table ~A2", "deeds 1", "press 0 ", "go home", "press\t0",
    "behind 0", "PRESS 0", "press-", "same " + " ".join("0" * 61), "press home", "now now", ["now"], ("now",), b"now",
]


def text_of(buttons):
    return " ".join(map(str, buttons)) or "-"


class ConsoleTest(CallCase):
    def says(self, console, line):
        """Both ways of a call that changes nothing."""
        found = console.say(line)
        self.assertIs(type(found), str)
        self.assertEqual(console.say(line=line), found)
        return found

    def looks_like(self, console, bench):
        """All that a console tells is what another bench, to which the same was done, shows."""
        now = bench.now
        self.assertEqual(self.says(console, "now"), text_of(now.word))
        self.assertEqual(self.says(console, "way home"), text_of(bench.home))
        self.assertEqual(self.says(console, "length"), str(now.length))
        self.assertEqual(self.says(console, "deeds"), str(len(bench)))
        self.assertEqual(self.says(console, "fronts"), text_of(now.fronts))
        self.assertEqual(self.says(console, "backs"), text_of(now.backs))
        self.assertEqual(self.says(console, "table"), bench.table.text)
        self.assertEqual(console.bench.log, bench.log)

    def test_lines(self):
        rng = chance(281)
        for table in (RING, named("A1"), named("B3"), chain((0, 3, 6)), named("E6")):
            bench, other = Bench(table), Bench(table)
            console = Console(bench)
            self.assertIs(console.bench, bench)
            self.looks_like(console, other)
            for _ in range(25):
                choice = rng.randrange(5)
                if choice < 2:
                    word = random_word(rng, table.size, rng.randrange(5))
                    self.assertEqual(console.say("press " + text_of(word)), "done")
                    other.press(word)
                elif choice == 2:
                    s = rng.randrange(table.size)
                    self.assertEqual(console.say(line=f"front {s}"), "done")
                    other.do(("front", s))
                elif choice == 3 and rng.randrange(3) == 0:
                    self.assertEqual(console.say("home"), "done")
                    other.go_home()
                elif len(other):
                    self.assertEqual(console.say("undo"), "done")
                    other.undo()
                self.looks_like(console, other)
                word = random_word(rng, table.size, rng.randrange(3))
                same = Change(table, word) == other.now
                self.assertEqual(self.says(console, "same " + text_of(word)), "yes" if same else "no")
                if other.now.length <= 60:
                    self.assertEqual(self.says(console, "same " + text_of(other.now.word)), "yes")

    def test_one_by_one(self):
        console = Console(bench=Bench(RING))
        told = [console.say(line) for line in (
            "press 0 1 2", "now", "way home", "press -", "deeds", "front 2", "now", "fronts", "backs", "same 2 0 1 2", "same -",
            "undo", "length", "home", "now", "fronts", "deeds", "way home", "same -", "table",
        )]
        self.assertEqual(told, ["done", "0 1 2", "2 1 0", "done", "3", "done", "2 0 1 2", "2", "2", "yes", "no",
                                "done", "3", "done", "-", "-", "6", "-", "yes", "table: 1 3 3; 3 1 3; 3 3 1"])

    def test_long_words(self):
        console = Console(Bench(RING))
        line = "press " + " ".join("012" * 20)
        self.assertEqual([console.say(line), console.say(line), console.say("length"), console.say("deeds")],
                         ["done", "done", "120", "120"])
        self.assertEqual(console.say("now"), " ".join("012" * 40))
        self.assertEqual(console.say("same " + " ".join("012" * 20)), "no")

    def test_wrong_lines(self):
        bench = Bench(RING)
        bench.press((0, 1))
        console = Console(bench)
        for value in odd_values() + WRONG_LINES:
            self.refuses(InvalidLine(value), console.say, line=value)
            self.assertEqual((bench.now.word, len(bench)), ((0, 1), 2))
        self.refuses(InvalidLine("front 1"), Console(Bench(named("A1"))).say, line="front 1")

    def test_nothing_to_undo(self):
        console = Console(Bench(RING))
        self.refuses(NothingToUndo(), console.say, line="undo")
        console.say("press -")
        self.refuses(NothingToUndo(), console.say, line="undo")

    def test_wrong_benches(self):
        for value in odd_values() + [RING, Console(Bench(RING))]:
            self.refuses(NotABench(value), Console, bench=value)

    def test_each_call_makes_a_new_one(self):
        bench = Bench(RING)
        console, other = Console(bench), Console(bench)
        self.assertIs(console == console, True)
        for value in odd_values() + [other]:
            self.assertIs(console == value, False)
            self.assertIs(console != value, True)


if __name__ == "__main__":
    unittest.main()
