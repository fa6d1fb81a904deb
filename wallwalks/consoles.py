"""Consoles, which do lines at a bench and answer in text."""

from wallwalks.benches import FRONT, Bench
from wallwalks.changes import Change, text_of_word, word_of_text
from wallwalks.errors import InvalidLine, NotABench

DONE = "done"


def go_home_at(bench):
    """Go home."""
    bench.go_home()
    return DONE


def undo_at(bench):
    """Take back the last deed."""
    bench.undo()
    return DONE


def now_at(bench):
    """The text of what is there."""
    return bench.now.text


def way_home_at(bench):
    """The text of the home word."""
    return text_of_word(bench.home)


def length_at(bench):
    """The length of what is there, in digits."""
    return str(bench.now.length)


def deeds_at(bench):
    """How many deeds have not been taken back, in digits."""
    return str(len(bench))


def fronts_at(bench):
    """The front buttons of what is there."""
    return text_of_word(bench.now.fronts)


def backs_at(bench):
    """The back buttons of what is there."""
    return text_of_word(bench.now.backs)


def table_at(bench):
    """The text of the table."""
    return bench.table.text


def press_at(bench, word):
    """Press a word."""
    bench.press(word)
    return DONE


def front_at(bench, word):
    """Press the one button of a word in front."""
    bench.do((FRONT, word[0]))
    return DONE


def same_at(bench, word):
    """Whether the word makes what is there."""
    return "yes" if Change(bench.table, word) == bench.now else "no"


# What is done for lines without a word, and for those with a word behind their own.
PLAIN_LINES = {
    "home": go_home_at,
    "undo": undo_at,
    "now": now_at,
    "way home": way_home_at,
    "length": length_at,
    "deeds": deeds_at,
    "fronts": fronts_at,
    "backs": backs_at,
    "table": table_at,
}
WORD_LINES = {"press": press_at, "front": front_at, "same": same_at}


def word_behind(table, head, rest):
    """The word that stands behind the head of a line; None if the line is of no form."""
    word = word_of_text(table, rest)
    if word is None or head not in WORD_LINES or (head == "front" and len(word) != 1):
        return None
    return word


class Console:
    """Lines for a bench."""

    def __init__(self, bench):
        if not isinstance(bench, Bench):
            raise NotABench(bench)
        self._bench = bench

    @property
    def bench(self):
        """The bench."""
        return self._bench

    def __eq__(self, other):
        return self is other

    def say(self, line):
        """Do a line, and return its answer."""
        if not isinstance(line, str):
            raise InvalidLine(line)
        if line in PLAIN_LINES:
            answer = PLAIN_LINES[line]
            return answer(self._bench)
        head, _, rest = line.partition(" ")
        word = word_behind(self._bench.table, head, rest)
        if word is None:
            raise InvalidLine(line)
        answer_word = WORD_LINES[head]
        return answer_word(self._bench, word)
