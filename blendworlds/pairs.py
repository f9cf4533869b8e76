"""Books that go by pairs: what pairs of places of a puzzle tell, and where that is enough."""

from itertools import combinations

from blendworlds.blends import broken_rows, is_keeping, made_of, tuples_of
from blendworlds.checks import are_below, as_set, is_tuple, tupled
from blendworlds.errors import CanNot, Unfit
from blendworlds.papers import puzzle_in, shows, tie_puzzle
from blendworlds.puzzles import is_solvable, with_shown
from blendworlds.search import spread
from blendworlds.tuples import are_of_one_length


def middle_value(values):
    """The value that two of the three are at least, of two values."""
    return values[0] if values[0] in values[1:] else values[1]


def middle_blend(book):
    """The blend of three that makes the middle."""
    return tuple([middle_value(values) for values in tuples_of(book, 3)])


def middle_of(book, one, two, three):
    """What the middle makes of three tuples of values."""
    if not are_of_one_length((one, two, three)):
        raise Unfit()
    return made_of(book, middle_blend(book), (one, two, three))


def goes_by_pairs(book):
    """Whether each tuple that a puzzle of the book does not show has two columns that it does not show."""
    return is_keeping(book, 3, middle_blend(book))


def pairs_paper(book):
    """A puzzle and a tuple that it does not show, though it shows each two columns of it."""
    book = tupled(book)
    middle = middle_blend(book)
    for number in range(len(book[2])):
        rows = broken_rows(book, 3, middle, number)
        if rows is not None:
            return tie_puzzle(book, number), made_of(book, middle, rows)
    raise CanNot()


def is_pairs_paper(book, thing):
    """Whether thing is a puzzle and a tuple that it does not show, though it shows each two columns of it."""
    book = tupled(book)
    if not is_tuple(thing, 2) or not are_below(thing[1], book[0]):
        return False
    puzzle, row = puzzle_in(book, thing[0]), thing[1]
    if puzzle is None or len(row) != len(puzzle[3]) or shows(book, puzzle, row):
        return False
    columns = as_set(list(zip(puzzle[3], row)))
    # a row of columns all alike is shown if one of them is
    both = list(combinations(list(columns), 2))
    return len(columns) > 1 and all([shows_both(book, puzzle, one, other) for one, other in both])


def shows_both(book, puzzle, one, other):
    """Whether some setting of the puzzle has, at the place of each of both pairs, its value."""
    return shows(book, with_shown(puzzle, (one[0], other[0])), (one[1], other[1]))


def agrees(places, row, pairs):
    """Whether the row, which stands at these places, has the value of each pair at its place, if that is there."""
    return all([row[places.index(place)] == value for place, value in pairs if place in places])


def is_let(needs, pairs):
    """Whether each of the needs, places and rows, has a row that agrees with the pairs."""
    return all([any([agrees(places, row, pairs) for row in rows]) for places, rows in needs])


def table_at_first(many, needs, told, one, other):
    """The table of two places at first; told is a dict."""
    found = []
    for low in range(many):
        for high in range(many):
            is_alike = one != other or low == high
            if is_alike and told.get(one, low) == low and told.get(other, high) == high:
                if is_let(needs, [(one, low), (other, high)]):
                    found.append((low, high))
    return tuple(found)


def tables_at_first(book, puzzle):
    """A dict of the tables of all pairs of places at first, by these pairs."""
    fits = [spread(spots, book[2][number][1]) for number, spots in puzzle[1]]
    # alike needs, which free puzzles have many of, are looked at once
    needs, told = as_set([(places, tuple(rows)) for places, rows in fits]), dict(puzzle[2])
    pairs = [(one, other) for one in range(puzzle[0]) for other in range(one, puzzle[0])]
    return {(one, other): table_at_first(book[0], needs, told, one, other) for one, other in pairs}


def is_in(tables, one, low, other, high):
    """Whether the table of both places has the pair of these values of theirs."""
    return (low, high) in tables[(one, other)] if one <= other else (high, low) in tables[(other, one)]


def is_borne(tables, spots, pair, place, many):
    """Whether the place has one of so many values that is with each value of the pair in the table there."""
    (one, other), (low, high) = spots, pair
    return any([is_in(tables, one, low, place, value) and is_in(tables, other, high, place, value)
                for value in range(many)])


def narrowed_table(tables, spots, places, many):
    """The table at these spots without the pairs that one of so many places does not bear."""
    return tuple([pair for pair in tables[spots]
                  if all([is_borne(tables, spots, pair, place, many) for place in range(places)])])


def tables_tight(book, puzzle):
    """A dict of the tight tables of all pairs of places, by these pairs."""
    tables, before = tables_at_first(book, puzzle), {}
    while tables != before:
        before = tables
        tables = {spots: narrowed_table(before, spots, puzzle[0], book[0]) for spots in before}
    return tables


def triples_of(tables):
    """The ascending tuple of the tables as triples."""
    return tuple([(one, other, tables[(one, other)]) for one, other in sorted(tables)])


def first_tables(book, puzzle):
    """The ascending tuple of the tables at first, as triples of both places and the table."""
    return triples_of(tables_at_first(tupled(book), tupled(puzzle)))


def tight_tables(book, puzzle):
    """The ascending tuple of the tight tables, as triples of both places and the table."""
    return triples_of(tables_tight(tupled(book), tupled(puzzle)))


def is_tight(book, puzzle):
    """Whether the tables at first are tight."""
    return first_tables(book, puzzle) == tight_tables(book, puzzle)


def is_empty_somewhere(book, puzzle):
    """Whether some tight table is empty."""
    return () in [table for _, _, table in tight_tables(book, puzzle)]


def setting_by_pairs(book, puzzle):
    """The setting of the least values, place by place, that fit the tight tables with all places ahead."""
    book, puzzle = tupled(book), tupled(puzzle)
    if not goes_by_pairs(book):
        raise Unfit()
    if not is_solvable(book, puzzle):
        raise CanNot()
    tables, setting = tables_tight(book, puzzle), []
    for place in range(puzzle[0]):
        values = [value for value, _ in tables[(place, place)]]
        for ahead, chosen in enumerate(setting):
            values = [value for value in values if (chosen, value) in tables[(ahead, place)]]
        setting.append(values[0])
    return tuple(setting)


def least_clash(book, puzzle):
    """The least of the smallest sets of told pairs that can not all be kept beside the ties, None if there is none."""
    book, (places, ties, told, _) = tupled(book), tupled(puzzle)
    for many in range(len(told) + 1):
        for chosen in combinations(list(told), many):
            if not is_solvable(book, (places, ties, chosen, ())):
                return chosen
    return None
