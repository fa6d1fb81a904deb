"""Wishes: what may be asked to hold, and to go on to hold, for changes under names."""

from wallwalks.changes import Change
from wallwalks.errors import InvalidPairs, InvalidWish, UnknownName
from wallwalks.fronts import begins
from wallwalks.limits import MOST_ORDER
from wallwalks.refusals import is_room, is_whole_within
from wallwalks.rooms import is_inside
from wallwalks.subwords import is_under
from wallwalks.tables import table_check
from wallwalks.turns import order_by

MOST_LETTERS = 12
LETTERS = "abcdefghijklmnopqrstuvwxyz"

# Of each wish how many names stand behind its own word, and what stands behind these.
FORMS = {
    "same": (2, ""),
    "product": (3, ""),
    "inverse": (2, ""),
    "commute": (2, ""),
    "begins": (2, ""),
    "under": (2, ""),
    "length": (1, "number"),
    "inside": (1, "room"),
    "order": (1, "number"),
}


def is_name(value):
    """Whether a value is a name of 1 to 12 letters."""
    if not isinstance(value, str) or not 1 <= len(value) <= MOST_LETTERS:
        return False
    return all([letter in LETTERS for letter in value])


def ends_well(table, end, rest):
    """Whether what stands behind the names of a wish is what is asked there."""
    if end == "":
        return not rest
    if len(rest) != 1:
        return False
    return is_whole_within(rest[0], 0, MOST_ORDER) if end == "number" else is_room(table.size, rest[0])


def has_form(table, value):
    """Whether a value is a wish by its form."""
    if not isinstance(value, tuple) or not value or not isinstance(value[0], str) or value[0] not in FORMS:
        return False
    many, end = FORMS[value[0]]
    found = value[1:many + 1]
    return len(found) == many and all([is_name(name) for name in found]) and ends_well(table, end, value[many + 1:])


def wish_check(table, value):
    """Refuse what is no wish by its form."""
    if not has_form(table, value):
        raise InvalidWish(value)


def wish_names(wish):
    """The names of a wish in their order."""
    return wish[1:FORMS[wish[0]][0] + 1]


def is_wish(table, value):
    """Whether a value is a wish by its form."""
    table_check(table)
    return has_form(table, value)


def names_in(table, wish):
    """The names of a wish in their order, each as often as it stands there."""
    table_check(table)
    wish_check(table, wish)
    return wish_names(wish)


def holds_of_one(kind, change, told):
    """Whether a wish with one name holds for its change."""
    if kind == "length":
        return change.length == told
    if kind == "order":
        return order_by(change) == told
    return is_inside(change, told)


def holds_of_two(kind, change, other):
    """Whether a wish with two names holds for their changes."""
    if kind == "same":
        return change == other
    if kind == "inverse":
        return change.inverse() == other
    if kind == "commute":
        return change * other == other * change
    if kind == "begins":
        return begins(change, other)
    return is_under(change, other)


def holds_among(wish, changes):
    """Whether a wish holds for the changes in a dict, which has all of its names."""
    found = [changes[name] for name in wish_names(wish)]
    if len(found) == 1:
        return holds_of_one(wish[0], found[0], wish[2])
    if len(found) == 2:
        return holds_of_two(wish[0], found[0], found[1])
    return found[0] * found[1] == found[2]


def is_pair(value):
    """Whether a value is a pair of a name and a change."""
    return isinstance(value, tuple) and len(value) == 2 and is_name(value[0]) and isinstance(value[1], Change)


def pairs_check(pairs, table):
    """Refuse what is no tuple of pairs of unlike names and changes of the table."""
    ahead = {}
    for at, pair in enumerate(pairs):
        if not is_pair(pair) or pair[1].table != table or pair[0] in ahead:
            raise InvalidPairs(at)
        ahead[pair[0]] = True


def known_names_check(wish, names):
    """Refuse a wish with a name that is none of these."""
    for name in wish_names(wish):
        if name not in names:
            raise UnknownName(name)


def holds(wish, pairs):
    """Whether a wish holds for the changes under names, which are pairs (name, change) of one table."""
    if not isinstance(pairs, tuple) or not pairs:
        raise InvalidPairs(None)
    if not is_pair(pairs[0]):
        raise InvalidPairs(0)
    table = pairs[0][1].table
    pairs_check(pairs, table)
    wish_check(table, wish)
    changes = {name: change for name, change in pairs}
    known_names_check(wish, changes)
    return holds_among(wish, changes)
