"""Blends: what makes one value of some, and which of them keep a book."""

from blendworlds.checks import are_below, as_set, check_kind, is_tuple, tupled
from blendworlds.errors import Unfit
from blendworlds.puzzles import how_many_settings, settings
from blendworlds.search import first_values, net_of, setting_with
from blendworlds.tuples import are_of_one_length, choices, columns_of, number_of


def tuples_of(book, k):
    """The ascending list of all tuples of k values."""
    return choices(list(range(book[0])), k)


def place_of(book, values):
    """The number of the tuple of values among the ascending ones of its length."""
    return number_of(book[0], values)


def is_blend(book, k, thing):
    """Whether thing is a blend of k values of the book."""
    return is_tuple(thing, len(tuples_of(book, k))) and are_below(thing, book[0])


def projections(book, k):
    """The list of the blends that make the first, the second, .. of k values."""
    return columns_of(tuples_of(book, k))


def blend_at(book, k, blend, values):
    """The value that the blend makes of values."""
    return blend[place_of(book, values)]


def made_of(book, blend, rows):
    """The tuple that the blend makes of as many tuples of one length as it takes."""
    return tuple([blend[place_of(book, column)] for column in columns_of(rows)])


def blended(book, k, blend, rows):
    """The tuple that the blend makes of the tuples of values in rows."""
    if len(rows) != k or not are_of_one_length(rows):
        raise Unfit()
    return made_of(book, blend, rows)


def codes_behind(many, codes, rows):
    """The list of the codes with each row put behind, of so many values.

    The code of some rows has for each column the number of the tuple of values that stand there.
    """
    return [tuple([code * many + value for code, value in zip(first, row)]) for first in codes for row in rows]


def codes_of(book, k, number):
    """The list of the codes of all k rows of the kind, ascending by these."""
    width, rows = book[2][number]
    codes = [(0,) * width]
    for _ in range(k):
        codes = codes_behind(book[0], codes, rows)
    return codes


def free_ties(book, k):
    """The set of the ties of the free puzzle of k."""
    ties = []
    for number in range(len(book[2])):
        ties.extend([(number, spots) for spots in sorted(codes_of(book, k, number))])
    return tuple(ties)


def free_puzzle(book, k):
    """The puzzle of all tuples of k values, whose settings are the blends of k that keep the book."""
    book = tupled(book)
    told = [(place_of(book, (value,) * k), value) for value in range(book[0]) if book[1]]
    return len(tuples_of(book, k)), free_ties(book, k), tuple(told), ()


def first_broken(book, k, blend, number):
    """The number of the least tuple of k rows of the kind of which the blend makes no row of it, if there is one."""
    many, (_, rows) = book[0], book[2][number]
    for at, codes in enumerate(codes_of(book, k - 1, number)):
        for last, row in enumerate(rows):
            if tuple([blend[code * many + value] for code, value in zip(codes, row)]) not in rows:
                return at * len(rows) + last
    return None


def keeps_kind(book, k, blend, number):
    """Whether the blend keeps the kind of this number."""
    book = tupled(book)
    check_kind(book, number)
    return first_broken(book, k, blend, number) is None


def broken_rows(book, k, blend, number):
    """The least tuple of k rows of the kind of which the blend makes no row of it, None if it keeps it."""
    book = tupled(book)
    check_kind(book, number)
    at = first_broken(book, k, blend, number)
    return None if at is None else choices(book[2][number][1], k)[at]


def is_broken(book, k, blend, number, thing):
    """Whether thing is a tuple of k rows of the kind of which the blend makes no row of it."""
    book = tupled(book)
    check_kind(book, number)
    rows = book[2][number][1]
    # an equal thing may have True in the place of 1
    if not is_tuple(thing, k) or not all([are_below(row, book[0]) and row in rows for row in thing]):
        return False
    return made_of(book, blend, thing) not in rows


def is_keeping(book, k, blend):
    """Whether the blend keeps the book."""
    book = tupled(book)
    if book[1] and not all([blend_at(book, k, blend, (value,) * k) == value for value in range(book[0])]):
        return False
    for number in range(len(book[2])):
        if first_broken(book, k, blend, number) is not None:
            return False
    return True


def left_among(left, lists):
    """What is left when at each place just values of its list stay."""
    return [tuple([value for value in values if value in wanted]) for values, wanted in zip(left, lists)]


def blend_among(book, k, lists):
    """A blend of k that keeps the book and makes of each tuple of values one in its list; None if there is none."""
    puzzle = free_puzzle(book, k)
    return net_of(book, puzzle).some(left_among(first_values(book, puzzle), lists))


def a_blend(book, k, told):
    """A blend of k that keeps the book and makes each told value of its tuple; None if there is none."""
    book = tupled(book)
    return setting_with(book, free_puzzle(book, k), [(place_of(book, values), value) for values, value in told])


def blends(book, k):
    """The ascending list of all blends of k that keep the book."""
    return settings(book, free_puzzle(book, k))


def how_many_blends(book, k):
    """How many blends of k keep the book."""
    return how_many_settings(book, free_puzzle(book, k))


def put_behind(book, k, blend, many, others):
    """The blend of many values that makes what the blend makes of what others make of them."""
    if len(others) != k:
        raise Unfit()
    return made_of(book, blend, others)


def felt_by(book, k, blend):
    """The set of the numbers of the values that the blend minds."""
    felt = []
    for values in tuples_of(book, k):
        for at in range(k):
            others = [values[:at] + (value,) + values[at + 1:] for value in range(book[0])]
            if any([blend_at(book, k, blend, other) != blend_at(book, k, blend, values) for other in others]):
                felt.append(at)
    return as_set(felt)


def turned_blend(book, k, blend, turn):
    """The blend that makes of turned values the turned one of what the blend makes of them."""
    back = [turn.index(value) for value in range(book[0])]
    first = [tuple([back[value] for value in values]) for values in tuples_of(book, k)]
    return tuple([turn[blend_at(book, k, blend, values)] for values in first])
