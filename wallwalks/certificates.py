"""Certificates: claims that are so, each with what the checker needs to see it."""

from wallwalks.carrying import carrying, kin, piece_with
from wallwalks.changes import Change, parting, tables_check
from wallwalks.checkrows import MOST_CERTIFIED
from wallwalks.crossings import crosses
from wallwalks.ends import climbing, is_finite, is_finite_room, kinds, room_top, top, top_of, weighing
from wallwalks.errors import InvalidRoom, TooMany
from wallwalks.fronts import common_front, facing_pair, least_continuation
from wallwalks.limits import MOST_WAY, MOST_WORD
from wallwalks.machines import walls_small
from wallwalks.pairs import balanced
from wallwalks.positives import Positive, grains, swaps
from wallwalks.quotients import quotient_check
from wallwalks.refusals import room_check, word_check
from wallwalks.steps import spare, way
from wallwalks.subwords import places
from wallwalks.tables import part, table_check
from wallwalks.turns import carrier, mirrors, order_of
from wallwalks.undoing import settled
from wallwalks.walls import meeting


def lengths_check(words, most):
    """Refuse words of which one has more than so many buttons."""
    for word in words:
        if len(word) > most:
            raise TooMany(most)


def certify_same(table, word, other_word):
    """Whether two words make the same change."""
    steps = way(table, word, other_word)
    if steps is not None:
        return ("same", table.text, word, other_word), steps
    button = parting(Change(table, word), Change(table, other_word))
    return ("unlike", table.text, word, other_word), button


def certify_least(table, word):
    """Whether a word is least."""
    pair = spare(table, word)
    if pair is None:
        return ("least", table.text, word), ()
    return ("spare", table.text, word), pair


def certify_length(table, word):
    """The length of a word's change."""
    first = Change(table, word).word
    return ("length", table.text, word, len(first)), (first, way(table, word, first))


def texts_at(vector, room):
    """The texts of a vector's numbers at the buttons of a room."""
    return tuple([vector[button].text for button in room])


def certify_finite(table):
    """Whether a table is finite."""
    if is_finite(table):
        return ("finite", table.text), top(table).word
    piece = climbing(table)
    return ("not finite", table.text), (piece, texts_at(weighing(table), piece))


def certify_kind(table, piece):
    """The kind of a piece."""
    table_check(table)
    room_check(table, piece)
    found = [kind for lot, kind in zip(table.pieces, kinds(table)) if lot == piece]
    if not found:
        raise InvalidRoom(None)
    return ("kind", table.text, piece, found[0]), texts_at(weighing(table), piece)


def certify_crossing(change, wall):
    """Whether a change crosses a wall."""
    name = "crosses" if crosses(change, wall) else "does not cross"
    word, button = wall.road
    lengths_check((change.word, word), MOST_WORD)
    return (name, change.table.text, change.word, word, button), ()


def certify_meeting(wall, other):
    """How two walls meet."""
    met = meeting(wall, other)
    word, button = wall.road
    other_word, other_button = other.road
    lengths_check((word, other_word), MOST_WORD)
    return ("meeting", wall.table.text, word, button, other_word, other_button, met), ()


def certify_small(table):
    """How many small walls there are."""
    roads = tuple([wall.road for wall in walls_small(table)])
    return ("small walls", table.text, len(roads)), roads


def move_row(table, room, button):
    """What tells where the move of a room by a button leads, or that there is none."""
    piece = piece_with(table, room, button)
    if is_finite_room(table, piece):
        return ("move", top_of(table, piece).word)
    return ("endless", piece, tuple([number.text for number in weighing(part(table, piece))]))


def move_rows(table, room):
    """These rows for all buttons that are not in the room, ascending."""
    return tuple([move_row(table, room, button) for button in range(table.size) if button not in room])


def certify_rooms_carried(table, room, other_room):
    """Whether some change carries the first room to the other one."""
    change = carrying(table, room, other_room)
    if change is None:
        rows = tuple([(held, move_rows(table, held)) for held in kin(table, room)])
        return ("rooms not carried", table.text, room, other_room), rows
    lengths_check((change.word,), MOST_CERTIFIED)
    return ("rooms carried", table.text, room, other_room), change.word


def certify_top(table, room):
    """The top of a finite room."""
    word = room_top(table, room).word
    return ("top", table.text, room, word), ()


def certify_front(change, other):
    """The greatest common front of two changes."""
    front = common_front(change, other)
    lengths_check((change.word, other.word), MOST_WORD)
    return ("greatest front", change.table.text, change.word, other.word, front.word), ()


def certify_continuation(change, other, most):
    """The least continuation of two changes, or walls face to face that bar it; None if neither is found."""
    further = least_continuation(change, other, most)
    if further is not None:
        return ("least continuation", change.table.text, change.word, other.word, further.word), ()
    pair = facing_pair(change, other)
    if pair is None:
        return None
    lengths_check((change.word, other.word), MOST_WORD)
    return ("no continuation", change.table.text, change.word, other.word), pair[0].road + pair[1].road


def certify_under(change, other):
    """Whether the first change is under the other one."""
    found = places(change, other)
    lengths_check((change.word, other.word), MOST_WORD)
    if found is None:
        return ("not under", change.table.text, change.word, other.word), ()
    return ("under", change.table.text, change.word, other.word), found


def grains_certificate(table, word):
    """Swaps that lead a word to the words of its grains, one behind the other, and these."""
    words = tuple([grain.word for grain in grains(Positive(table, word))])
    return (swaps(table, word, tuple([button for held in words for button in held])), words)


def certify_words(table, word, other_word):
    """Whether two words make one positive."""
    table_check(table)
    word_check(table, word)
    word_check(table, other_word)
    longer = max(len(word), len(other_word))
    if longer > MOST_WAY:
        raise TooMany(longer)
    steps = swaps(table, word, other_word)
    if steps is not None:
        return ("one positive", table.text, word, other_word), steps
    certificate = grains_certificate(table, word) + grains_certificate(table, other_word)
    return ("two positives", table.text, word, other_word), certificate


def certify_quotients(quotient, other):
    """That two quotients are equal; None if they are not."""
    quotient_check(quotient)
    quotient_check(other)
    tables_check(quotient, other)
    if quotient != other:
        return None
    # Equal quotients have the same lowest terms, so nothing must be put behind them.
    words = (quotient.dividend.word, quotient.divisor.word)
    lengths_check(words, MOST_WORD)
    return ("one quotient", quotient.table.text) + words + words, ((), (), (), ())


def certify_order(change):
    """The order of a change."""
    order = order_of(change)
    lengths_check((change.word,), MOST_WORD)
    if order == 0:
        return ("endless order", change.table.text, change.word), ()
    return ("order", change.table.text, change.word, order), ()


def certify_mirrors(change):
    """How many mirrors a change is a product of, and no fewer."""
    roads = tuple([wall.road for wall in mirrors(change)])
    lengths_check((change.word,), MOST_WORD)
    return ("mirrors", change.table.text, change.word, len(roads)), roads


def certify_carried(change, other):
    """That the first change is carried to the other one; None if it is not."""
    by = carrier(change, other)
    if by is None:
        return None
    return ("carried", change.table.text, change.word, other.word), by.word


def certify_settled(change):
    """That the top of an opposite room is carried to a flip."""
    by, room = settled(change)
    lengths_check((change.word,), MOST_WORD)
    return ("settled", change.table.text, change.word, room), by.word


def certify_balanced(change):
    """The terms of the balanced blend of a change."""
    terms = tuple([(held.word, laurent.text) for held, laurent in balanced(change).terms])
    return ("balanced", change.table.text, change.word, terms), ()
