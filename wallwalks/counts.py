"""How many changes there are of each length, for all lengths."""

from wallwalks.ends import degrees_of, how_many, is_finite, is_finite_room, kinds
from wallwalks.errors import NotFinite
from wallwalks.limits import MOST_COUNT, MOST_FAR, MOST_MODULUS
from wallwalks.polynomials import (
    cyclotomic, divisors_above_1, far_coefficient, one_to, poly_divided, poly_opposite, poly_product, poly_sum, series,
)
from wallwalks.refusals import number_check
from wallwalks.tables import part, table_check


def room_degrees(table, room):
    """The degrees of the table of a finite room."""
    return degrees_of(part(table, room)) if room else ()


def polynomial_of(degrees_given):
    """The polynomial of the numbers of changes of each length, by the degrees."""
    made = (1,)
    for degree in degrees_given:
        made = poly_product(made, one_to(degree))
    return made


def room_polynomial(table, room):
    """The numbers of changes of a finite room of each length, from 0 on."""
    if not is_finite_room(table, room):
        raise NotFinite()
    return polynomial_of(room_degrees(table, room))


def all_rooms(size):
    """All rooms of a table with so many buttons."""
    rooms = [()]
    for button in range(size):
        rooms = rooms + [room + (button,) for room in rooms]
    return rooms


def shared_parts(lots):
    """For each number of a cyclotomic part, how often one of the polynomials of these degrees has it at most."""
    most = {}
    for degrees_given in lots:
        own = {}
        for degree in degrees_given:
            for number in divisors_above_1(degree):
                own[number] = own.get(number, 0) + 1
        for number, many in own.items():
            most[number] = max(many, most.get(number, 0))
    return most


def rooms_fraction(table):
    """The sum over all finite rooms of 1 by their polynomials, - for odd rooms, as top, bottom, and bottom's parts."""
    rooms = [room for room in all_rooms(table.size) if is_finite_room(table, room)]
    lots = [room_degrees(table, room) for room in rooms]
    parts = shared_parts(lots)
    bottom = (1,)
    for number, many in parts.items():
        for _ in range(many):
            bottom = poly_product(bottom, cyclotomic(number))
    total = ()
    for room, degrees_given in zip(rooms, lots):
        share, _ = poly_divided(bottom, polynomial_of(degrees_given))
        total = poly_sum(total, poly_opposite(share) if len(room) & 1 else share)
    return total, bottom, parts


def lowered(above, below, parts):
    """The fraction without common parts, by the parts of what is below."""
    for number, many in parts.items():
        shared = cyclotomic(number)
        for _ in range(many):
            quotient, rest = poly_divided(above, shared)
            if rest:
                break
            above = quotient
            below, _ = poly_divided(below, shared)
    return above, below


def growth(table):
    """The numerator and the denominator of the growth of a table."""
    if is_finite(table):
        return (room_polynomial(table, tuple(range(table.size))), (1,))
    total, bottom, parts = rooms_fraction(table)
    above, below = lowered(total, bottom, parts)
    # 1 / W(1 / q) is above / below, of one degree; so W is got from both, read backwards, the other way up.
    start = 0
    while above[start] == 0:
        start += 1
    return (below[::-1], above[start:][::-1])


def counts_of(table, many):
    """The numbers of changes of the lengths below `many`."""
    numerator, denominator = growth(table)
    return series(numerator, denominator, many)


def how_many_at(table, length):
    """How many changes have this length."""
    table_check(table)
    number_check(length, 0, MOST_COUNT)
    return counts_of(table, length + 1)[length]


def counts(table, many):
    """The numbers of changes of the first lengths, from 0 on, so many of them."""
    table_check(table)
    number_check(many, 1, MOST_COUNT)
    return counts_of(table, many)


def how_many_by(table, length, modulus):
    """What the number of changes of this length leaves by the modulus."""
    table_check(table)
    number_check(length, 0, MOST_FAR)
    number_check(modulus, 2, MOST_MODULUS)
    numerator, denominator = growth(table)
    return far_coefficient(numerator, denominator, length, modulus)


def speed(table):
    """How fast the number of changes grows with the length."""
    found = kinds(table)
    if "wild" in found:
        return ("faster", 0)
    if "flat" in found:
        return ("power", sum([len(piece) - 1 for piece, kind in zip(table.pieces, found) if kind == "flat"]))
    return ("ends", how_many(table))
