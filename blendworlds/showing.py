"""What puzzles of a book show: what follows from shown rows, and which sets of rows can be shown."""

from itertools import combinations

from blendworlds.blends import a_blend, free_puzzle, is_blend, is_keeping, made_of, place_of, tuples_of
from blendworlds.books import constants, without_kind
from blendworlds.checks import as_set, tupled
from blendworlds.errors import CanNot
from blendworlds.papers import puzzle_in, shows, tie_puzzle
from blendworlds.puzzles import is_solvable, shown_rows, with_shown
from blendworlds.tuples import columns_of


def free_at(book, rows):
    """The free puzzle of as many values as there are rows, shown at the places of what rows have in their columns."""
    shown = tuple([place_of(book, column) for column in columns_of(rows)])
    return with_shown(free_puzzle(book, len(rows)), shown)


def made_from(book, rows):
    """The set of all rows that blends that keep the book make of rows."""
    return shown_rows(book, free_at(book, rows))


def fewest_seeds(book, rows):
    """The least of the smallest sets of some of rows from which all of rows follow."""
    book, members = tupled(book), as_set(tupled(rows))
    for many in range(1, len(members)):
        for seeds in combinations(list(members), many):
            found = made_from(book, seeds)
            if all([row in found for row in members]):
                return seeds
    return members


def seeds_of(book, rows):
    """Some of rows from which all of rows follow, not too many for a free puzzle if that can be."""
    members = as_set(rows)
    # the free puzzle of one more row is larger by far, so that to look for few of many rows is worth its while
    return members if len(members) <= (3 if book[0] < 3 else 2) else fewest_seeds(book, members)


def follows(book, rows, row):
    """Whether the row follows from rows."""
    return tupled(row) in following(book, rows)


def following(book, rows):
    """The set of all that follow from rows."""
    book, rows = tupled(book), tupled(rows)
    return made_from(book, seeds_of(book, rows))


def a_maker(book, rows, row):
    """A blend that keeps the book and makes the row of rows."""
    book, rows = tupled(book), tupled(rows)
    blend = a_blend(book, len(rows), list(zip(columns_of(rows), row)))
    if blend is None:
        raise CanNot()
    return blend


def is_maker(book, rows, row, thing):
    """Whether thing is a blend that keeps the book and makes the row of rows."""
    book, rows, row = tupled(book), tupled(rows), tupled(row)
    k = len(rows)
    return is_blend(book, k, thing) and made_of(book, thing, rows) == row and is_keeping(book, k, thing)


def parting_puzzle(book, rows, row):
    """A puzzle that shows all of rows and not the row."""
    book, rows = tupled(book), tupled(rows)
    if follows(book, rows, row):
        raise CanNot()
    return free_at(book, seeds_of(book, rows))


def is_parting_puzzle(book, rows, row, thing):
    """Whether thing is a puzzle that shows all of rows and not the row."""
    book, rows, row = tupled(book), tupled(rows), tupled(row)
    puzzle = puzzle_in(book, thing)
    if puzzle is None:
        return False
    return all([shows(book, puzzle, other) for other in rows]) and not shows(book, puzzle, row)


def can_show(book, rows):
    """Whether some puzzle shows just these rows."""
    return following(book, rows) == as_set(tupled(rows))


def showing_puzzle(book, rows):
    """A puzzle that shows just these rows."""
    book, rows = tupled(book), tupled(rows)
    if not can_show(book, rows):
        raise CanNot()
    return free_at(book, seeds_of(book, rows))


def is_showing_puzzle(book, rows, thing):
    """Whether thing is a puzzle that shows just these rows."""
    book, rows = tupled(book), tupled(rows)
    puzzle = puzzle_in(book, thing)
    if puzzle is None or len(puzzle[3]) != len(rows[0]):
        return False
    return shown_rows(book, puzzle) == as_set(rows)


def lacking_row(book, kind):
    """The least row that the kind could have and has not, None if it has all."""
    width, rows = kind
    return min([row for row in tuples_of(book, width) if row not in rows], default=None)


def loops_puzzle(book):
    """The puzzle of one place that is at all spots of a tie of each kind."""
    return 1, tuple([(number, (0,) * width) for number, (width, _) in enumerate(book[2])]), (), ()


def some_stuck(book):
    """A puzzle that has no setting, None if each one has."""
    if not book[1]:
        return None if constants(book) else loops_puzzle(book)
    for number, kind in enumerate(book[2]):
        row = lacking_row(book, kind)
        if row is not None:
            places, ties, _, _ = tie_puzzle(book, number)
            return places, ties, tuple(enumerate(row)), ()
    return None


def can_be_stuck(book):
    """Whether some puzzle is not solvable."""
    return some_stuck(tupled(book)) is not None


def stuck_puzzle(book):
    """A puzzle that is not solvable."""
    puzzle = some_stuck(tupled(book))
    if puzzle is None:
        raise CanNot()
    return puzzle


def is_stuck_puzzle(book, thing):
    """Whether thing is a puzzle that is not solvable."""
    book = tupled(book)
    puzzle = puzzle_in(book, thing)
    return puzzle is not None and not is_solvable(book, puzzle)


def is_told_by_others(book, number):
    """Whether some puzzle without this kind shows just its rows."""
    others, rows = without_kind(book, number), book[2][number][1]
    return can_show(others, rows) if rows else can_be_stuck(others)


def needless_kinds(book):
    """The set of the numbers of the kinds whose rows some puzzle without this kind shows."""
    book = tupled(book)
    return tuple([number for number in range(len(book[2])) if is_told_by_others(book, number)])
