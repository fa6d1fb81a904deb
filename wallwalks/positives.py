"""Positives: what words make if nothing cancels, and they may only be exchanged by swaps."""

from wallwalks.changes import change_check, change_of, tables_check, text_of_word
from wallwalks.errors import NotAPositive, TooMany
from wallwalks.heads import (
    continued, first_word_by, fronts_of, heads_of, heads_of_product, shared_word, turned_round, without_word,
)
from wallwalks.limits import MOST_WAY, MOST_WORD
from wallwalks.refusals import number_check, word_check
from wallwalks.steps import swap_places
from wallwalks.tables import table_check


class Positive:
    """The positive of a word, held by its heads (module heads) and its first word."""

    def __init__(self, table, word):
        table_check(table)
        word_check(table, word)
        self._table = table
        self.heads = heads_of(table, word)
        self._word = first_word_by(table, self.heads)

    @property
    def table(self):
        """The table."""
        return self._table

    @property
    def word(self):
        """The first word."""
        return self._word

    @property
    def length(self):
        """The number of buttons of each of its words."""
        return len(self._word)

    @property
    def fronts(self):
        """The front buttons."""
        return fronts_of(self._table, self.heads)

    @property
    def backs(self):
        """The back buttons."""
        return fronts_of(self._table, turned_round(self._table, self.heads))

    @property
    def text(self):
        """The text of the first word."""
        return text_of_word(self._word)

    def __eq__(self, other):
        return isinstance(other, Positive) and self._table == other._table and self._word == other._word

    def __bool__(self):
        return bool(self._word)

    def __mul__(self, other):
        if not isinstance(other, Positive):
            return NotImplemented
        tables_check(self, other)
        return positive_with(self._table, heads_of_product(self._table, self.heads, other.heads))


def positive_with(table, heads):
    """The positive with these heads."""
    made = Positive(table, ())
    made.heads = heads
    made._word = first_word_by(table, heads)
    return made


def positive_check(value):
    """Refuse what is no positive."""
    if not isinstance(value, Positive):
        raise NotAPositive(value)


def both_positives_check(positive, other):
    """Refuse what are not two positives of one table."""
    positive_check(positive)
    positive_check(other)
    tables_check(positive, other)


def without_front(positive, other):
    """The positive z with other * z == positive; None if there is none."""
    both_positives_check(positive, other)
    heads = without_word(positive.table, positive.heads, other.word)
    return None if heads is None else positive_with(positive.table, heads)


def without_back(positive, other):
    """The positive z with z * other == positive; None if there is none."""
    both_positives_check(positive, other)
    table = positive.table
    heads = without_word(table, turned_round(table, positive.heads), other.word[::-1])
    return None if heads is None else positive_with(table, turned_round(table, heads))


def shared_front(positive, other):
    """The greatest common front."""
    both_positives_check(positive, other)
    table = positive.table
    return positive_with(table, heads_of(table, shared_word(table, positive.heads, other.heads)))


def shared_back(positive, other):
    """The greatest common back."""
    both_positives_check(positive, other)
    table = positive.table
    word = shared_word(table, turned_round(table, positive.heads), turned_round(table, other.heads))
    return positive_with(table, heads_of(table, word[::-1]))


def shared_continuation(positive, other, most):
    """The least common continuation if there is one with at most so many buttons; None otherwise."""
    positive_check(positive)
    positive_check(other)
    number_check(most, 0, MOST_WORD)
    tables_check(positive, other)
    table = positive.table
    if max(positive.length, other.length) > most:
        return None
    behind = continued(table, positive.heads, other.heads, most)
    if behind is None:
        return None
    return positive_with(table, heads_of_product(table, other.heads + tuple(behind[1]), ()))


def lifted(change):
    """The positive of the least words of a change."""
    change_check(change)
    return positive_with(change.table, (change.word,) if change else ())


def led_down(positive):
    """The change that all words of a positive make."""
    positive_check(positive)
    return change_of(positive.table, positive.word)


def is_simple(positive):
    """Whether it is the positive of the least words of some change."""
    positive_check(positive)
    return len(positive.heads) <= 1


def grains(positive):
    """The change of the greatest simple front, then that of the rest's, and so on."""
    positive_check(positive)
    return tuple([change_of(positive.table, head) for head in positive.heads])


def swaps(table, word, other_word):
    """Swaps that lead the first word to the other one; None if they make unlike positives."""
    table_check(table)
    word_check(table, word)
    word_check(table, other_word)
    if word == other_word:
        return ()
    if Positive(table, word) != Positive(table, other_word):
        return None
    if len(word) > MOST_WAY:
        raise TooMany(len(word))
    return tuple([("swap", place) for place in swap_places(table, word, other_word)])
