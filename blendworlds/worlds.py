"""Books made of two books: their values are pairs of a value of the one, its first half, and one of the other."""

from blendworlds.blends import blend_at, tuples_of
from blendworlds.checks import as_set, check_values, tupled
from blendworlds.errors import Unfit
from blendworlds.spared import wanted_values
from blendworlds.tuples import choices, number_of


def check_worlds(book, other):
    """Raises Unfit if just one of both books is telling."""
    if book[1] != other[1]:
        raise Unfit()


def first_half(other, row):
    """The tuple of the first halves of the values in row."""
    return tuple([value // other[0] for value in row])


def second_half(other, row):
    """The tuple of the second halves of the values in row."""
    return tuple([value % other[0] for value in row])


def rows_beside(other, rows, seconds):
    """The set of all rows whose first halves are one of rows, and second halves one of seconds."""
    return as_set([both_halves(other, row, second) for row in rows for second in seconds])


def both_halves(other, row, second):
    """The tuple of the values with these halves."""
    return tuple([value * other[0] + half for value, half in zip(row, second)])


def side_by_side(book, other):
    """The book of all pairs of values, with the kinds of both for the halves, each by itself."""
    book, other = tupled(book), tupled(other)
    check_worlds(book, other)
    kinds = [(width, rows_beside(other, rows, tuples_of(other, width))) for width, rows in book[2]]
    kinds.extend([(width, rows_beside(other, tuples_of(book, width), rows)) for width, rows in other[2]])
    return book[0] * other[0], book[1], tuple(kinds)


def by_kinds(book, other):
    """The book of all pairs of values, with the kinds of both of the same number for the halves, together."""
    book, other = tupled(book), tupled(other)
    check_worlds(book, other)
    if [width for width, _ in book[2]] != [width for width, _ in other[2]]:
        raise Unfit()
    kinds = [(width, rows_beside(other, rows, seconds)) for (width, rows), (_, seconds) in zip(book[2], other[2])]
    return book[0] * other[0], book[1], tuple(kinds)


def halves(book, other, row):
    """The pair of the tuples of the first and of the second halves of the values in row."""
    check_worlds(book, other)
    return first_half(other, row), second_half(other, row)


def joined(book, other, row, second):
    """The tuple with these halves."""
    check_worlds(book, other)
    if len(row) != len(second):
        raise Unfit()
    return both_halves(other, row, second)


def places_told(told):
    """The tuple of the told places."""
    return tuple([place for place, _ in told])


def values_told(told):
    """The tuple of the told values."""
    return tuple([value for _, value in told])


def puzzle_beside(book, other, puzzle, second):
    """The puzzle of the book side by side whose halves are these puzzles."""
    check_worlds(book, other)
    (places, ties, told, shown), second = tupled(puzzle), tupled(second)
    if places != second[0] or places_told(told) != places_told(second[2]) or shown != second[3]:
        raise Unfit()
    behind = [(number + len(book[2]), spots) for number, spots in second[1]]
    values = both_halves(other, values_told(told), values_told(second[2]))
    return places, ties + tuple(behind), tuple(zip(places_told(told), values)), shown


def puzzle_halves(book, other, puzzle):
    """The pair of the puzzles of both books of which the puzzle of the book side by side is made."""
    check_worlds(book, other)
    places, ties, told, shown = tupled(puzzle)
    many, spots, values = len(book[2]), places_told(told), values_told(told)
    ahead = tuple([tie for tie in ties if tie[0] < many])
    behind = tuple([(number - many, at) for number, at in ties if number >= many])
    one = places, ahead, tuple(zip(spots, first_half(other, values))), shown
    return one, (places, behind, tuple(zip(spots, second_half(other, values))), shown)


def blend_beside(book, other, k, blend, second):
    """The blend of the values of the book beside that makes its halves by these blends."""
    check_worlds(book, other)
    both = choices(list(range(book[0] * other[0])), k)
    ones = [blend_at(book, k, blend, first_half(other, values)) for values in both]
    twos = [blend_at(other, k, second, second_half(other, values)) for values in both]
    return both_halves(other, ones, twos)


def blend_half(book, other, k, blend, value):
    """The blend of the values of book that makes what blend makes in the first half, the second one being value."""
    check_worlds(book, other)
    check_values(other, (value,))
    many = book[0] * other[0]
    made = [blend[number_of(many, both_halves(other, values, (value,) * k))] for values in tuples_of(book, k)]
    return first_half(other, made)


def spared_pairs(book, other):
    """The set of the values of the book side by side that some blend of one that keeps it never makes."""
    book, other = tupled(book), tupled(other)
    check_worlds(book, other)
    ones, twos = wanted_values(book), wanted_values(other)
    return tuple([one * other[0] + two for one in range(book[0]) for two in range(other[0])
                  if one not in ones or two not in twos])
