"""Benches, at which buttons are pressed live, and deeds taken back."""

from wallwalks.changes import change_of, plain
from wallwalks.errors import InvalidDeed, NothingToUndo
from wallwalks.refusals import is_whole_within, word_check
from wallwalks.trials import Trial

BEHIND = "behind"
FRONT = "front"


def is_deed(table, value):
    """Whether a value is a deed with a button of the table."""
    if not isinstance(value, tuple) or len(value) != 2 or not isinstance(value[0], str):
        return False
    return value[0] in (BEHIND, FRONT) and is_whole_within(value[1], 0, table.size - 1)


def behind_deed(change, deed):
    """The change to which a deed leads."""
    press = change_of(change.table, (deed[1],))
    return change * press if deed[0] == BEHIND else press * change


class Bench:
    """What stands at a bench, and the deeds that have led there.

    It holds a pair: the tuple of the deeds, and that of the changes, the plain
    one first, to which they have led. The pair is replaced by each deed.
    """

    def __init__(self, table):
        self._plain = plain(table)
        self.held = ((), (self._plain,))

    @property
    def table(self):
        """The table."""
        return self._plain.table

    @property
    def now(self):
        """The change that is there."""
        return self.held[1][-1]

    @property
    def home(self):
        """The first word of the inverse of what is there."""
        return self.now.inverse().word

    @property
    def log(self):
        """The deeds that have not been taken back."""
        return self.held[0]

    def __eq__(self, other):
        return self is other

    def __len__(self):
        return len(self.held[0])

    def __bool__(self):
        return True

    def do(self, deed):
        """Do a deed."""
        if not is_deed(self.table, deed):
            raise InvalidDeed(deed)
        deeds, changes = self.held
        self.held = (deeds + (deed,), changes + (behind_deed(changes[-1], deed),))

    def press(self, word):
        """Press a word behind, each button by a deed of its own."""
        word_check(self.table, word)
        for button in word:
            self.do((BEHIND, button))

    def undo(self):
        """Take back the last deed that has not been taken back."""
        deeds, changes = self.held
        if not deeds:
            raise NothingToUndo()
        self.held = (deeds[:-1], changes[:-1])

    def go_home(self):
        """Press the home word behind, each button by a deed of its own."""
        for button in self.home:
            self.do((BEHIND, button))

    def trial(self):
        """For a `with` statement: if its rows end with an exception, the bench is as it was."""
        return Trial(self)

    def tried(self, action):
        """Call a function with the bench within such a statement, and return what it returns."""
        with self.trial():
            return action(self)
