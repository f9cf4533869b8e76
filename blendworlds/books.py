"""Books: their values, their kinds of ties, and what can be made of them."""

from itertools import permutations

from blendworlds.checks import are_below, as_set, check_kind, check_values, is_ascending, is_number, is_tuple, tupled
from blendworlds.errors import Unfit


def is_kind(many, thing):
    """Whether thing is a kind of a book of so many values."""
    if not is_tuple(thing, 2):
        return False
    width, rows = thing
    if not is_number(width) or not 1 <= width <= 3 or not isinstance(rows, tuple):
        return False
    return all([is_tuple(row, width) and are_below(row, many) for row in rows]) and is_ascending(rows)


def is_book(thing):
    """Whether thing is a book."""
    if not is_tuple(thing, 3):
        return False
    many, telling, kinds = thing
    if not is_number(many) or many < 1:
        return False
    if not isinstance(telling, bool) or not isinstance(kinds, tuple):
        return False
    return all([is_kind(many, kind) for kind in kinds])


def with_kind(book, kind):
    """The book with this kind behind all others."""
    many, telling, kinds = tupled(book)
    return many, telling, kinds + (tupled(kind),)


def without_kind(book, number):
    """The book without the kind of this number."""
    book = tupled(book)
    check_kind(book, number)
    many, telling, kinds = book
    return many, telling, kinds[:number] + kinds[number + 1:]


def with_rows(book, number, rows):
    """The book with just the set of these rows in the kind of this number."""
    many, telling, kinds = book
    kind = (kinds[number][0], as_set(rows))
    return many, telling, kinds[:number] + (kind,) + kinds[number + 1:]


def check_row(book, number, row):
    """Raises the error for a row that can not be one of the kind of this number, if it is such."""
    check_kind(book, number)
    check_values(book, row)
    if len(row) != book[2][number][0]:
        raise Unfit()


def with_row(book, number, row):
    """The book with this row in the kind of this number, too."""
    book, row = tupled(book), tupled(row)
    check_row(book, number, row)
    return with_rows(book, number, book[2][number][1] + (row,))


def without_row(book, number, row):
    """The book without this row in the kind of this number."""
    book, row = tupled(book), tupled(row)
    check_row(book, number, row)
    rows = book[2][number][1]
    if row not in rows:
        raise Unfit()
    return with_rows(book, number, [kept for kept in rows if kept != row])


def with_telling(book, telling):
    """The book with the same kinds, telling or not."""
    many, _, kinds = tupled(book)
    return many, telling, kinds


def columns(book, number):
    """The sets of the values in the columns of the kind of this number."""
    book = tupled(book)
    check_kind(book, number)
    width, rows = book[2][number]
    return tuple([as_set([row[column] for row in rows]) for column in range(width)])


def constants(book):
    """The set of the values that, alone, make a row of each kind."""
    many, _, kinds = tupled(book)
    return tuple([value for value in range(many) if all([(value,) * width in rows for width, rows in kinds])])


def single_kinds(book):
    """The book that is not telling, with a kind of its own for each value that could be told."""
    many, telling, kinds = tupled(book)
    if not telling:
        return many, telling, kinds
    return many, False, kinds + tuple([(1, ((value,),)) for value in range(many)])


def is_turn(book, thing):
    """Whether thing is a tuple of all values of the book in some order."""
    many = book[0]
    return is_tuple(thing, many) and are_below(thing, many) and sorted(thing) == list(range(many))


def turned_kind(kind, turn):
    """The kind with its values turned."""
    width, rows = kind
    return width, as_set([tuple([turn[value] for value in row]) for row in rows])


def turned(book, turn):
    """The book with its values turned in all rows."""
    many, telling, kinds = tupled(book)
    return many, telling, tuple([turned_kind(kind, turn) for kind in kinds])


def turns_into(book, other):
    """The ascending list of the turns that make other of book."""
    book, other = tupled(book), tupled(other)
    return [turn for turn in permutations(range(book[0])) if turned(book, turn) == other]


def turns_of(book):
    """The ascending list of the turns that make the book of itself."""
    return turns_into(book, book)


def has_twins(rows, one, other):
    """Whether each row that has the value one in a column stands there with the value other, too."""
    for row in rows:
        for column, value in enumerate(row):
            if value == one and row[:column] + (other,) + row[column + 1:] not in rows:
                return False
    return True


def are_alike(kinds, one, other):
    """Whether both values stand for one another in all kinds."""
    return all([has_twins(rows, one, other) and has_twins(rows, other, one) for _, rows in kinds])


def alike_values(book):
    """The set of the pairs of values, the lesser one first, that stand for one another."""
    many, _, kinds = tupled(book)
    pairs = [(one, other) for one in range(many) for other in range(one + 1, many)]
    return tuple([pair for pair in pairs if are_alike(kinds, pair[0], pair[1])])


def kind_within(kind, left):
    """The kind of the rows that have none but the values left, which are numbered in their order."""
    width, rows = kind
    kept = [row for row in rows if all([value in left for value in row])]
    return width, tuple([tuple([left.index(value) for value in row]) for row in kept])


def without_values(book, values):
    """The book without these values, those that are left being numbered in their order."""
    book, values = tupled(book), tupled(values)
    check_values(book, values)
    many, telling, kinds = book
    left = [value for value in range(many) if value not in values]
    if not left:
        raise Unfit()
    return len(left), telling, tuple([kind_within(kind, left) for kind in kinds])
