"""Puzzles that show something: how they are made, and how those that are handed in are looked at."""

from blendworlds.puzzles import is_puzzle, moved_ties
from blendworlds.search import setting_with


def tie_puzzle(book, number):
    """The puzzle of one tie of this kind, each spot of which is a place of its own, all of them shown."""
    spots = tuple(range(book[2][number][0]))
    return len(spots), ((number, spots),), (), spots


def touched_places(puzzle):
    """The ascending list of the places that are in ties, told or shown."""
    _, ties, told, shown = puzzle
    touched = [place for _, spots in ties for place in spots] + [place for place, _ in told]
    return sorted(set(touched + list(shown)))


def trimmed(puzzle):
    """The puzzle with just one of the places that are neither in ties nor told nor shown, if there are such."""
    # they are all alike, and a thing may have too many of them to go through
    places, ties, told, shown = puzzle
    touched = touched_places(puzzle)
    names = {place: at for at, place in enumerate(touched)}
    many = min(places, len(touched) + 1)
    ties = tuple(moved_ties(ties, names))
    return many, ties, tuple([(names[place], value) for place, value in told]), tuple([names[place] for place in shown])


def puzzle_in(book, thing):
    """The puzzle of the book that thing is, trimmed; None if it is none."""
    return trimmed(thing) if is_puzzle(book, thing) else None


def shows(book, puzzle, row):
    """Whether the puzzle shows this row."""
    return len(row) == len(puzzle[3]) and setting_with(book, puzzle, list(zip(puzzle[3], row))) is not None
