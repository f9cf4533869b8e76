"""Strikes: values taken away tie by tie, what they leave, and whether they decide all puzzles of a book."""

from itertools import combinations

from blendworlds.checks import are_below, as_set, check_places, check_values, is_ascending, is_below, is_number
from blendworlds.checks import is_tuple, tupled
from blendworlds.errors import Unfit
from blendworlds.papers import puzzle_in
from blendworlds.puzzles import is_setting, is_solvable
from blendworlds.search import first_values, found_setting, rows_within


def first_left(book, puzzle):
    """What is left at first: the told value where one is told, all values elsewhere."""
    return tuple(first_values(tupled(book), tupled(puzzle)))


def is_left(book, puzzle, thing):
    """Whether thing is a tuple of sets of values, one for each place."""
    return is_tuple(thing, puzzle[0]) and all([are_below(part, book[0]) and is_ascending(part) for part in thing])


def sets_at(left, spots):
    """What is left at each of the spots."""
    return [left[spot] for spot in spots]


def open_at(book, left, tie):
    """The ascending list of the pairs of a column of this tie and a value that can be struck there."""
    number, spots = tie
    sets = sets_at(left, spots)
    rows, found = rows_within(book[2][number][1], sets), []
    for column, values in enumerate(sets):
        had = [row[column] for row in rows]
        found.extend([(column, value) for value in values if value not in had])
    return found


def is_open_in(book, ties, left, strike):
    """Whether the strike at one of the ties is open in this left."""
    at, column, value = strike
    if not is_below(at, len(ties)):
        return False
    number, spots = ties[at]
    if not is_below(column, len(spots)) or value not in left[spots[column]]:
        return False
    return value not in [row[column] for row in rows_within(book[2][number][1], sets_at(left, spots))]


def is_open(book, puzzle, left, strike):
    """Whether the strike is open in this left."""
    return is_open_in(book, puzzle[1], left, strike)


def open_strikes(book, puzzle, left):
    """The set of the strikes that are open in this left."""
    book, ties = tupled(book), tupled(puzzle)[1]
    return tuple([(at,) + pair for at, tie in enumerate(ties) for pair in open_at(book, left, tie)])


def left_without(left, place, value):
    """The left without this value at the place."""
    return left[:place] + (tuple([kept for kept in left[place] if kept != value]),) + left[place + 1:]


def left_done(puzzle, left, strike):
    """The left behind an open strike."""
    tie, column, value = strike
    return left_without(left, puzzle[1][tie][1][column], value)


def left_after(book, puzzle, strikes):
    """What strikes, done from the first left on, leave; None if one is not open in its turn."""
    left = tuple(first_values(book, puzzle))
    for strike in strikes:
        if not is_open_in(book, puzzle[1], left, strike):
            return None
        left = left_done(puzzle, left, strike)
    return left


def is_triple(thing):
    """Whether thing is a triple of numbers."""
    return is_tuple(thing, 3) and all([is_number(part) for part in thing])


def is_strikes(book, puzzle, thing):
    """Whether thing is a tuple of strikes, each open in its turn from the first left on."""
    if not isinstance(thing, tuple) or not all([is_triple(part) for part in thing]):
        return False
    return left_after(book, puzzle, thing) is not None


def left_behind(book, puzzle, strikes):
    """The left behind the strikes."""
    left = left_after(book, puzzle, strikes)
    if left is None:
        raise Unfit()
    return left


def ties_near(puzzle):
    """For each place the list of the numbers of the ties that have it among their spots."""
    near = [[] for _ in range(puzzle[0])]
    for at, (_, spots) in enumerate(puzzle[1]):
        for place in spots:
            near[place].append(at)
    return near


def left_struck(book, puzzle, left):
    """What is left when strikes end that are done from this left on."""
    left, near = list(left), ties_near(puzzle)
    waiting = list(range(len(puzzle[1])))
    while waiting:
        number, spots = puzzle[1][waiting.pop()]
        rows = rows_within(book[2][number][1], sets_at(left, spots))
        for column, place in enumerate(spots):
            had = [row[column] for row in rows]
            kept = tuple([value for value in left[place] if value in had])
            if kept != left[place]:
                left[place] = kept
                fresh = [at for at in near[place] if at not in waiting]
                waiting.extend(fresh)
    return tuple(left)


def struck(book, puzzle):
    """A pair of strikes that end and the left behind them."""
    left, done = first_left(book, puzzle), []
    near = ties_near(puzzle)
    waiting = list(reversed(range(len(puzzle[1]))))
    while waiting:
        at = waiting.pop()
        number, spots = puzzle[1][at]
        for column, value in open_at(book, left, (number, spots)):
            place = spots[column]
            # another column of the same place may have struck it just now
            if value in left[place]:
                done.append((at, column, value))
                left = left_without(left, place, value)
                waiting.extend(near[place])
    return tuple(done), left


def all_strikes(book, puzzle):
    """Strikes that end."""
    strikes, _ = struck(tupled(book), tupled(puzzle))
    return strikes


def left_at(book, puzzle):
    """The left behind strikes that end."""
    book, puzzle = tupled(book), tupled(puzzle)
    return left_struck(book, puzzle, first_values(book, puzzle))


def is_struck_empty(book, puzzle):
    """Whether nothing is left at some place when strikes end."""
    return () in left_at(book, puzzle)


def found_by_strikes(book, puzzle):
    """The setting of what is left when strikes end, if that is one value at each place; None otherwise."""
    left = left_at(book, puzzle)
    return tuple([values[0] for values in left]) if all([len(values) == 1 for values in left]) else None


def check_value_at(book, puzzle, place, value):
    """Raises the error for a place or a value that there is not."""
    check_places(puzzle, (place,))
    check_values(book, (value,))


def is_strikes_to(book, puzzle, place, value, thing):
    """Whether thing is a tuple of strikes behind which this value is not left at the place."""
    book, puzzle = tupled(book), tupled(puzzle)
    check_value_at(book, puzzle, place, value)
    return is_strikes(book, puzzle, thing) and value not in left_after(book, puzzle, thing)[place]


def strikes_to(book, puzzle, place, value):
    """Strikes, none of them needless, behind which this value is not left at the place; None if there are none."""
    book, puzzle = tupled(book), tupled(puzzle)
    check_value_at(book, puzzle, place, value)
    strikes, left = struck(book, puzzle)
    if value in left[place]:
        return None
    # from the last one on, once: what was wanted for more strikes ahead of it is so for fewer, too
    for at in reversed(range(len(strikes))):
        fewer = strikes[:at] + strikes[at + 1:]
        if is_strikes_to(book, puzzle, place, value, fewer):
            strikes = fewer
    return strikes


def fewest_strikes_to(book, puzzle, place, value):
    """How few strikes there can be behind which this value is not left at the place; None if there are none."""
    book, puzzle = tupled(book), tupled(puzzle)
    check_value_at(book, puzzle, place, value)
    if value in left_at(book, puzzle)[place]:
        return None
    lefts, many = [first_left(book, puzzle)], 0
    while all([value in left[place] for left in lefts]):
        behind = [left_done(puzzle, left, strike) for left in lefts for strike in open_strikes(book, puzzle, left)]
        lefts, many = sorted(set(behind)), many + 1
    return many


def sets_of(book):
    """The sets of values but (), ascending."""
    values = list(range(book[0]))
    return as_set([chosen for many in range(1, len(values) + 1) for chosen in combinations(values, many)])


def mark_of_row(many, row):
    """The mark of the row alone: of its columns one behind another, with a bit for each of so many values."""
    return sum([1 << (column * many + value) for column, value in enumerate(row)])


def marks_of_some(many, rows):
    """The list of the marks of all that some of rows, one at least, have in their columns together."""
    found = {}
    for row in rows:
        mark = mark_of_row(many, row)
        more = [mark | other for other in found]
        for one in [mark] + more:
            found[one] = True
    return list(found)


def sets_ties(book, number, names):
    """The ascending list of the ties of the puzzle of sets of this kind; names tells the place of a set by its mark."""
    many, (width, rows) = book[0], book[2][number]
    every, shifts = (1 << many) - 1, [column * many for column in range(width)]
    # rows that have in each column a value of its set, and together all of these: just what some rows have together
    spots = [tuple([names[mark >> shift & every] for shift in shifts]) for mark in marks_of_some(many, rows)]
    return [(number, spot) for spot in sorted(spots)]


def sets_puzzle(book):
    """The puzzle of sets of the book."""
    book = tupled(book)
    sets, ties = sets_of(book), []
    names = {sum([1 << value for value in values]): at for at, values in enumerate(sets)}
    for number in range(len(book[2])):
        ties.extend(sets_ties(book, number, names))
    told = [(at, values[0]) for at, values in enumerate(sets) if book[1] and len(values) == 1]
    return len(sets), tuple(ties), tuple(told), ()


def sets_setting(book):
    """A setting of the puzzle of sets, None if there is none."""
    book = tupled(book)
    return found_setting(book, sets_puzzle(book))


def strikes_decide(book):
    """Whether each puzzle of the book that is not struck empty has a setting."""
    return sets_setting(book) is not None


def set_by_sets(book, puzzle, chosen):
    """The setting that has at each place what chosen has at the set that is left there; None if struck empty."""
    book, chosen = tupled(book), tupled(chosen)
    if not is_setting(book, sets_puzzle(book), chosen):
        raise Unfit()
    sets, left = sets_of(book), left_at(book, puzzle)
    return None if () in left else tuple([chosen[sets.index(values)] for values in left])


def undecided_puzzle(book):
    """A puzzle that is not struck empty and has no setting, None if there is none."""
    book = tupled(book)
    puzzle = sets_puzzle(book)
    return puzzle if found_setting(book, puzzle) is None else None


def is_undecided(book, thing):
    """Whether thing is a puzzle that is not struck empty and has no setting."""
    book = tupled(book)
    puzzle = puzzle_in(book, thing)
    return puzzle is not None and not is_struck_empty(book, puzzle) and not is_solvable(book, puzzle)
