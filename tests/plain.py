"""What books, blends and puzzles are asked, worked out from the words of the document alone, by going through all."""

import functools
import itertools
import random

from tests.helper import a_book, a_puzzle, all_settings


def all_tuples(values, length):
    return list(itertools.product(range(values), repeat=length))


def makes(book, blend, rows):
    """What the blend makes of rows, column by column."""
    table = dict(zip(all_tuples(book[0], len(rows)), blend))
    return tuple(table[column] for column in zip(*rows))


def keeps_a_kind(book, k, blend, number):
    rows = book[2][number][1]
    return all(makes(book, blend, chosen) in rows for chosen in itertools.product(rows, repeat=k))


def keeps_a_book(book, k, blend):
    if book[1] and any(makes(book, blend, ((value,),) * k) != (value,) for value in range(book[0])):
        return False
    return all(keeps_a_kind(book, k, blend, number) for number in range(len(book[2])))


@functools.lru_cache(maxsize=None)
def all_blends(book, k):
    """All blends of k that keep the book, by trying all there can be."""
    return [blend for blend in all_tuples(book[0], book[0] ** k) if keeps_a_book(book, k, blend)]


def shown_by(book, puzzle):
    """The set of the rows that the puzzle shows."""
    return {tuple(row[place] for place in puzzle[3]) for row in all_settings(book, puzzle)}


def ties_of(book, places):
    return [(number, spots) for number, (width, _) in enumerate(book[2]) for spots in all_tuples(places, width)]


def all_puzzles(book, places):
    """All puzzles of so many places, nothing shown."""
    ties = ties_of(book, places)
    tolds = itertools.product(*[[None, *range(book[0])] if book[1] else [None] for _ in range(places)])
    tolds = [tuple((place, value) for place, value in enumerate(row) if value is not None) for row in tolds]
    sets = [chosen for many in range(len(ties) + 1) for chosen in itertools.combinations(ties, many)]
    return [(places, chosen, told, ()) for chosen in sets for told in tolds]


def pair_kinds():
    """All kinds of two columns of two values."""
    rows = all_tuples(2, 2)
    return [(2, chosen) for many in range(5) for chosen in itertools.combinations(rows, many)]


@functools.lru_cache(maxsize=None)
def pool():
    """Pairs of a book and many puzzles of it, each with the list of its settings.

    All books of two values and one kind of two columns, with all puzzles of two places (and, if not telling, a share of
    those of three); books without kinds or of one value; more books of up to three values, with puzzles at random.
    """
    dice = random.Random(77)
    books = [(2, telling, (kind,)) for kind in pair_kinds() for telling in (False, True)]
    given = []
    for book in books:
        puzzles = all_puzzles(book, 0) + all_puzzles(book, 1) + all_puzzles(book, 2)
        if not book[1]:
            puzzles += dice.sample(all_puzzles(book, 3), 60)
        given.append((book, puzzles))
    others = [(2, True, ()), (2, False, ()), (3, False, ()), (1, True, ()), (1, False, ((1, ()),)), (1, True, ((2, ((0, 0),)),))]
    others += [a_book(dice) for _ in range(60)]
    given += [(book, [a_puzzle(dice, book) for _ in range(25)]) for book in others]
    return [(book, [(puzzle, all_settings(book, puzzle)) for puzzle in puzzles]) for book, puzzles in given]


def in_bounds(book, two, three):
    """How many values blends may be of, for the book."""
    return three if book[0] == 3 else two


def left_by_plain_strikes(book, puzzle):
    """What is left when no strike is open, gone through again and again."""
    told = dict(puzzle[2])
    left = [{told[place]} if place in told else set(range(book[0])) for place in range(puzzle[0])]
    while True:
        found = plain_open(book, puzzle, left)
        if not found:
            return tuple(tuple(sorted(values)) for values in left)
        tie, column, value = found[0]
        left[puzzle[1][tie][1][column]].discard(value)


def plain_open(book, puzzle, left):
    """The open strikes, ascending."""
    found = []
    for at, (number, spots) in enumerate(puzzle[1]):
        rows = [row for row in book[2][number][1] if all(value in left[spot] for value, spot in zip(row, spots))]
        found += [(at, column, value) for column, spot in enumerate(spots) for value in sorted(left[spot])
                  if not any(row[column] == value for row in rows)]
    return found


