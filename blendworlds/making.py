"""Making puzzles with just one setting: what must be told, what can be seen, and hints."""

from itertools import combinations

from blendworlds.checks import as_set, check_places, is_below, is_tuple, tupled
from blendworlds.errors import CanNot
from blendworlds.hits import barest_hits, fewest_of, mark_of, marks_unlike, smallest_hit
from blendworlds.puzzles import settings_within
from blendworlds.search import counted_settings, first_values, found_setting, found_settings, left_told, left_with
from blendworlds.strikes import left_at, left_struck
from blendworlds.tuples import choices, columns_of


def at_spots(row, spots):
    """What the row has at the spots."""
    return tuple([row[spot] for spot in spots])


def untold_places(puzzle):
    """The list of the places that are not told."""
    told = dict(puzzle[2])
    return [place for place in range(puzzle[0]) if place not in told]


def with_clues(puzzle, clues):
    """The puzzle told these clues, too, of places that are not told or told just so."""
    places, ties, told, shown = puzzle
    return places, ties, as_set(told + tuple(clues)), shown


def with_just_told(puzzle, told):
    """The puzzle told just these pairs."""
    return puzzle[0], puzzle[1], tuple(told), puzzle[3]


def is_single(book, puzzle):
    """Whether the puzzle has just one setting."""
    return counted_settings(tupled(book), tupled(puzzle)) == 1


def is_enough(book, puzzle, setting, spots):
    """Whether the puzzle is single with the clues of the setting at the spots."""
    book, puzzle = tupled(book), tupled(puzzle)
    check_places(puzzle, spots)
    # at told places the setting has what is told
    return is_single(book, with_clues(puzzle, [(spot, setting[spot]) for spot in spots]))


def marks_of_others(book, puzzle, setting):
    """The ascending list of the marks of the places at which other settings are not like this one."""
    return [mark for mark in marks_unlike(setting, found_settings(book, puzzle)) if mark]


def fewest_clues(book, puzzle, setting):
    """The least of the smallest sets of places, none told, that are enough."""
    book, puzzle = tupled(book), tupled(puzzle)
    return smallest_hit(untold_places(puzzle), marks_of_others(book, puzzle, setting))


def lean_clues(book, puzzle, setting):
    """The ascending list of the sets of the places of all lean sets of clues of the setting."""
    book, puzzle = tupled(book), tupled(puzzle)
    return barest_hits(untold_places(puzzle), marks_of_others(book, puzzle, setting))


def are_unlike_at(rows, spots):
    """Whether any two of rows are unlike at one of the spots."""
    return len(set([at_spots(row, spots) for row in rows])) == len(rows)


def tells_all(book, puzzle, spots):
    """Whether any two settings are unlike at one of the spots."""
    book, puzzle = tupled(book), tupled(puzzle)
    check_places(puzzle, spots)
    return are_unlike_at(found_settings(book, puzzle), spots)


def fewest_to_tell(book, puzzle):
    """The least of the smallest sets of places that tell all."""
    book, puzzle = tupled(book), tupled(puzzle)
    rows, places, reached = found_settings(book, puzzle), list(range(puzzle[0])), 1
    for many in range(len(places)):
        # fewer places can not have as many tuples of values as there are settings
        if reached >= len(rows):
            for spots in combinations(places, many):
                if are_unlike_at(rows, spots):
                    return spots
        reached = reached * book[0]
    return tuple(places)


def needless_told(book, puzzle):
    """The set of the told places without each of which, that one alone not told, the settings are the same."""
    book, puzzle = tupled(book), tupled(puzzle)
    return tuple([place for place, _ in puzzle[2] if not kept_away(book, puzzle, place)])


def kept_away(book, puzzle, place):
    """The ascending list of the settings that the puzzle has more if the place is not told."""
    book, puzzle = tupled(book), tupled(puzzle)
    check_places(puzzle, (place,))
    left = first_values(book, puzzle)
    others = tuple([value for value in range(book[0]) if value not in left[place]])
    # without others the place is not told, or told the one value that there is
    return settings_within(book, puzzle, left_with(left, place, others)) if others else []


def seen_of(left):
    """The list of the pairs of a place and the one value that is left there."""
    return [(place, values[0]) for place, values in enumerate(left) if len(values) == 1]


def seen_clues(book, puzzle):
    """The set of the clues that striking leaves."""
    book, puzzle = tupled(book), tupled(puzzle)
    return tuple(seen_of(left_at(book, puzzle))) if found_setting(book, puzzle) is not None else ()


def left_with_clues(book, puzzle, left, clues):
    """What striking leaves if these clues are told, too, left being what it leaves without them."""
    return left_struck(book, puzzle, left_told(left, clues))


def is_let(book, puzzle, left, clue):
    """Whether striking leaves values everywhere if this clue is told, too, left being what it leaves without it."""
    return () not in left_with_clues(book, puzzle, left, [clue])


def left_by_tries(book, puzzle):
    """The tuple of the sets, place by place, of the values with which told, too, the puzzle is not struck empty."""
    book, puzzle = tupled(book), tupled(puzzle)
    left = left_at(book, puzzle)
    return tuple([tuple([value for value in values if is_let(book, puzzle, left, (place, value))])
                  for place, values in enumerate(left)])


def reason_for(book, puzzle, place):
    """The least of the smallest sets of told places by which the clue at the place is still sure."""
    book, puzzle = tupled(book), tupled(puzzle)
    check_places(puzzle, (place,))
    rows = found_settings(book, puzzle)
    if len(set([row[place] for row in rows])) != 1:
        raise CanNot()
    wrong = [row for row in found_settings(book, with_just_told(puzzle, ())) if row[place] != rows[0][place]]
    marks = as_set([mark_of(places_missed(puzzle, row)) for row in wrong])
    return smallest_hit([spot for spot, _ in puzzle[2]], marks)


def places_missed(puzzle, row):
    """The tuple of the told places at which the row has not what is told."""
    return tuple([place for place, value in puzzle[2] if row[place] != value])


def sure_clues(rows):
    """The list of the clues that all of rows have, none if there are no rows."""
    columns = columns_of(rows) if rows else []
    return [(place, values[0]) for place, values in enumerate(columns) if len(set(values)) == 1]


def unseen(clues, left):
    """The list of those of the clues that are not all that is left at their places."""
    return [clue for clue in clues if len(left[clue[0]]) > 1]


def sure_and_left(book, puzzle):
    """The list of the sure clues, and what striking leaves."""
    return sure_clues(found_settings(book, puzzle)), left_at(book, puzzle)


def is_hint_row(book, puzzle, thing):
    """Whether thing is a hint row."""
    book, puzzle = tupled(book), tupled(puzzle)
    if not isinstance(thing, tuple):
        return False
    sure, left = sure_and_left(book, puzzle)
    for clue in thing:
        # an equal thing may have True in the place of 1
        if not is_tuple(clue, 2) or not is_below(clue[0], puzzle[0]) or not is_below(clue[1], book[0]):
            return False
        if clue not in unseen(sure, left):
            return False
        left = left_with_clues(book, puzzle, left, [clue])
    return not unseen(sure, left)


def fewest_hints(book, puzzle):
    """The least of the sets of the clues of the shortest hint rows."""
    book, puzzle = tupled(book), tupled(puzzle)
    sure, left = sure_and_left(book, puzzle)
    hints = unseen(sure, left)
    for many in range(len(hints)):
        for clues in combinations(hints, many):
            if not unseen(hints, left_with_clues(book, puzzle, left, clues)):
                return clues
    return tuple(hints)


def longer_sets(book, puzzle, sure, sets):
    """The sets of clues with one hint more, with what striking leaves then, of all sets in a dict like the one told."""
    found = {}
    for clues in sets:
        for hint in unseen(sure, sets[clues]):
            more = as_set(clues + (hint,))
            if more not in found:
                found[more] = left_with_clues(book, puzzle, sets[clues], [hint])
    return found


def most_hints(book, puzzle):
    """How many clues the longest hint row has."""
    book, puzzle = tupled(book), tupled(puzzle)
    sure, left = sure_and_left(book, puzzle)
    sets, many = longer_sets(book, puzzle, sure, {(): left}), 0
    while sets:
        sets, many = longer_sets(book, puzzle, sure, sets), many + 1
    return many


def spoilt_by(book, puzzle):
    """The least of the smallest sets of told places without which told the puzzle is solvable."""
    book, puzzle = tupled(book), tupled(puzzle)
    rows = found_settings(book, with_just_told(puzzle, ()))
    if not rows:
        raise CanNot()
    return fewest_of([places_missed(puzzle, row) for row in rows])


def counts_at(rows, spots):
    """A dict of how many of rows have each tuple of values that some have at the spots."""
    found = {}
    for row in rows:
        values = at_spots(row, spots)
        found[values] = found.get(values, 0) + 1
    return found


def how_many_lean(book, puzzle):
    """How many sets of clues are lean."""
    book, puzzle = tupled(book), tupled(puzzle)
    rows, places, total = found_settings(book, puzzle), untold_places(puzzle), 0
    counts = {}
    for many in range(len(places) + 1):
        for spots in combinations(places, many):
            counts[spots] = counts_at(rows, spots)
            fewer = [counts[spots[:at] + spots[at + 1:]] for at in range(many)]
            total += len([values for values in counts[spots] if is_lean(counts[spots], fewer, values)])
    return total


def is_lean(counts, fewer, values):
    """Whether these values, counted so, are had by one setting, and without any one of them by more, counted so."""
    if counts[values] != 1:
        return False
    return all([less[values[:at] + values[at + 1:]] > 1 for at, less in enumerate(fewer)])


def least_with(many, counts, length, number):
    """The least tuple of so many values, of this length, that is counted so often; None if there is none."""
    if number == 0:
        return min([values for values in choices(list(range(many)), length) if values not in counts], default=None)
    return min([values for values in counts if counts[values] == number], default=None)


def fewest_to_have(book, puzzle, number):
    """The least of the smallest sets of clues with which the puzzle has so many settings."""
    book, puzzle = tupled(book), tupled(puzzle)
    rows, places = found_settings(book, puzzle), untold_places(puzzle)
    if not 0 <= number <= len(rows):
        raise CanNot()
    for many in range(len(places) + 1):
        found = []
        for spots in combinations(places, many):
            values = least_with(book[0], counts_at(rows, spots), many, number)
            if values is not None:
                found.append(tuple(zip(spots, values)))
        if found:
            return min(found)
    raise CanNot()
