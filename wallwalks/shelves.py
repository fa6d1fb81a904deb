"""Shelves, which keep changes under names, and wishes that always hold."""

from wallwalks.changes import change_check
from wallwalks.errors import (
    Broken, InUse, InvalidName, InvalidNumber, InvalidPairs, NothingToUndo, OtherTable, UnknownName,
)
from wallwalks.refusals import is_whole_within
from wallwalks.tables import table_check
from wallwalks.trials import Trial
from wallwalks.wishes import holds_among, is_name, known_names_check, pairs_check, wish_check, wish_names


def first_broken(wishes, changes):
    """The index of the first wish that does not hold for the changes under their names; None if all hold."""
    for index, wish in enumerate(wishes):
        if not holds_among(wish, changes):
            return index
    return None


class Shelf:
    """Changes of one table under names, with wishes that hold for them.

    It holds a tuple of states, the empty one first, and one more for each deed
    that has not been taken back; the last one tells what is there. A state is a
    pair: the pairs of names and changes, ascending by the names, and the wishes.
    """

    def __init__(self, table):
        table_check(table)
        self._table = table
        self.held = (((), ()),)

    @property
    def table(self):
        """The table."""
        return self._table

    @property
    def names(self):
        """The names, ascending."""
        return tuple([name for name, _ in self.held[-1][0]])

    @property
    def wishes(self):
        """The wishes, in the order in which they were made."""
        return self.held[-1][1]

    @property
    def deeds(self):
        """How many deeds can be taken back."""
        return len(self.held) - 1

    def __eq__(self, other):
        return self is other

    def __len__(self):
        return len(self.held[-1][0])

    def __bool__(self):
        return True

    def __contains__(self, x):
        return isinstance(x, str) and x in self.names

    def put(self, name, change):
        """Put a change under a name, perhaps in the place of another one."""
        if not is_name(name):
            raise InvalidName(name)
        change_check(change)
        if change.table != self._table:
            raise OtherTable()
        self._put_pairs(((name, change),))

    def put_all(self, pairs):
        """Put several changes under names at once."""
        if not isinstance(pairs, tuple):
            raise InvalidPairs(None)
        pairs_check(pairs, self._table)
        self._put_pairs(pairs)

    def _put_pairs(self, pairs):
        """Put changes under names, by one deed."""
        changes = self._changes()
        for name, change in pairs:
            changes[name] = change
        broken = first_broken(self.wishes, changes)
        if broken is not None:
            raise Broken(broken)
        self._go_on(tuple([(name, changes[name]) for name in sorted(list(changes))]), self.wishes)

    def _changes(self):
        """The changes under their names, as a dict."""
        return {name: change for name, change in self.held[-1][0]}

    def _go_on(self, pairs, wishes):
        """Do a deed that leads to another state."""
        self.held = self.held + ((pairs, wishes),)

    def named(self, name):
        """The change under a name."""
        self._name_check(name)
        return self._changes()[name]

    def _name_check(self, name):
        """Refuse what is no name here."""
        if name not in self:
            raise UnknownName(name)

    def drop(self, name):
        """Take a name away, and the change under it."""
        self._name_check(name)
        for index, wish in enumerate(self.wishes):
            if name in wish_names(wish):
                raise InUse(index)
        self._go_on(tuple([pair for pair in self.held[-1][0] if pair[0] != name]), self.wishes)

    def wish(self, wish):
        """Make a wish more, behind the others."""
        wish_check(self._table, wish)
        known_names_check(wish, self.names)
        if not holds_among(wish, self._changes()):
            raise Broken(len(self.wishes))
        self._go_on(self.held[-1][0], self.wishes + (wish,))

    def free(self, index):
        """Take a wish away."""
        wishes = self.wishes
        if not is_whole_within(index, 0, len(wishes) - 1):
            raise InvalidNumber(index)
        self._go_on(self.held[-1][0], wishes[:index] + wishes[index + 1:])

    def undo(self):
        """Take back the last deed that has not been taken back."""
        if len(self.held) == 1:
            raise NothingToUndo()
        self.held = self.held[:-1]

    def trial(self):
        """For a `with` statement: if its rows end with an exception, the shelf is as it was."""
        return Trial(self)

    def tried(self, action):
        """Call a function with the shelf within such a statement, and return what it returns."""
        with self.trial():
            return action(self)
