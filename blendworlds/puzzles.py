"""Puzzles of a book: their settings, what these show, and how puzzles are changed and put together."""

from blendworlds.checks import are_below, as_set, check_kind, check_places, check_values
from blendworlds.checks import is_ascending, is_below, is_number, is_tuple, tupled
from blendworlds.errors import CanNot, Unfit
from blendworlds.search import counted_settings, first_values, found_setting, found_settings
from blendworlds.search import left_told, left_with, net_of, parts_at


def is_tie(book, places, thing):
    """Whether thing is a tie of a puzzle of the book with so many places."""
    if not is_tuple(thing, 2):
        return False
    number, spots = thing
    if not is_below(number, len(book[2])):
        return False
    return are_below(spots, places) and len(spots) == book[2][number][0]


def are_ties(book, places, thing):
    """Whether thing is a set of such ties."""
    if not isinstance(thing, tuple):
        return False
    return all([is_tie(book, places, tie) for tie in thing]) and is_ascending(thing)


def are_told(book, places, thing):
    """Whether thing is what may be told in a puzzle of the book with so many places."""
    if not isinstance(thing, tuple):
        return False
    for pair in thing:
        if not is_tuple(pair, 2) or not is_below(pair[0], places) or not is_below(pair[1], book[0]):
            return False
    # ascending by the places alone, so that none is told twice
    return is_ascending([place for place, _ in thing]) and (book[1] or not thing)


def is_puzzle(book, thing):
    """Whether thing is a puzzle of the book."""
    book = tupled(book)
    if not is_tuple(thing, 4):
        return False
    places, ties, told, shown = thing
    if not is_number(places) or places < 0:
        return False
    return are_ties(book, places, ties) and are_told(book, places, told) and are_below(shown, places)


def keeps_tie(book, setting, tie):
    """Whether the setting keeps this tie."""
    number, spots = tie
    return tuple([setting[spot] for spot in spots]) in book[2][number][1]


def broken_ties(book, puzzle, setting):
    """The set of the ties that the setting does not keep."""
    book, puzzle, setting = tupled(book), tupled(puzzle), tupled(setting)
    return tuple([tie for tie in puzzle[1] if not keeps_tie(book, setting, tie)])


def keeps_ties(book, puzzle, setting):
    """Whether the setting keeps all ties, whatever is told."""
    return not broken_ties(book, puzzle, setting)


def is_setting(book, puzzle, thing):
    """Whether thing is a setting of the puzzle."""
    book, puzzle = tupled(book), tupled(puzzle)
    if not is_tuple(thing, puzzle[0]) or not are_below(thing, book[0]):
        return False
    return all([thing[place] == value for place, value in puzzle[2]]) and keeps_ties(book, puzzle, thing)


def parts_of(puzzle):
    """The set of the sets of places that hang together."""
    puzzle = tupled(puzzle)
    return tuple(parts_at(puzzle[0], [spots for _, spots in puzzle[1]]))


def part_with(puzzle, place):
    """The set of the places that hang together with this one."""
    holding = [part for part in parts_of(puzzle) if place in part]
    return holding[0]


def settings_within(book, puzzle, left):
    """The ascending list of the settings that keep the ties and have the values left."""
    return net_of(book, puzzle).all_rows(left)


def settings(book, puzzle):
    """The ascending list of all settings of the puzzle."""
    return found_settings(tupled(book), tupled(puzzle))


def few_settings(book, puzzle, number):
    """The first settings, so many, or all if there are no more."""
    book, puzzle = tupled(book), tupled(puzzle)
    if number >= counted_settings(book, puzzle):
        return found_settings(book, puzzle)
    return net_of(book, puzzle).first_rows(first_values(book, puzzle), number)


def a_setting(book, puzzle):
    """A setting of the puzzle, None if there is none."""
    return found_setting(tupled(book), tupled(puzzle))


def is_solvable(book, puzzle):
    """Whether the puzzle has a setting."""
    return a_setting(book, puzzle) is not None


def how_many_settings(book, puzzle):
    """How many settings the puzzle has."""
    return counted_settings(tupled(book), tupled(puzzle))


def nth_setting(book, puzzle, number):
    """The setting with this number in the list of all."""
    book, puzzle = tupled(book), tupled(puzzle)
    setting = net_of(book, puzzle).numbered(first_values(book, puzzle), number)
    if setting is None:
        raise CanNot()
    return setting


def shown_rows(book, puzzle):
    """The set of the rows that the puzzle shows."""
    book, puzzle = tupled(book), tupled(puzzle)
    return tuple(net_of(book, puzzle).rows_at(first_values(book, puzzle), puzzle[3]))


def settings_showing(book, puzzle, row):
    """The ascending list of the settings that show this row."""
    book, puzzle, row = tupled(book), tupled(puzzle), tupled(row)
    if len(row) != len(puzzle[3]):
        return []
    return settings_within(book, puzzle, left_told(first_values(book, puzzle), list(zip(puzzle[3], row))))


def values_at(book, puzzle, place):
    """The set of the values that settings have at the place."""
    book, puzzle = tupled(book), tupled(puzzle)
    check_places(puzzle, (place,))
    rows = net_of(book, puzzle).rows_at(first_values(book, puzzle), (place,))
    return tuple([row[0] for row in rows])


def sure_places(book, puzzle):
    """The set of the pairs of a place and a value that each setting has there."""
    book, puzzle = tupled(book), tupled(puzzle)
    net, left = net_of(book, puzzle), first_values(book, puzzle)
    setting = net.some(left)
    if setting is None:
        raise CanNot()
    pairs = []
    for place, value in enumerate(setting):
        others = tuple([other for other in left[place] if other != value])
        if not others or net.some(left_with(left, place, others)) is None:
            pairs.append((place, value))
    return tuple(pairs)


def part_puzzle(puzzle, place):
    """The part with this place alone."""
    puzzle = tupled(puzzle)
    check_places(puzzle, (place,))
    part = part_with(puzzle, place)
    ties = [(number, tuple([part.index(spot) for spot in spots])) for number, spots in puzzle[1] if spots[0] in part]
    told = [(part.index(spot), value) for spot, value in puzzle[2] if spot in part]
    return len(part), tuple(ties), tuple(told), tuple([part.index(spot) for spot in puzzle[3] if spot in part])


def with_tie(book, puzzle, number, spots):
    """The puzzle with the tie of the kind of this number at these spots, too."""
    book, puzzle, spots = tupled(book), tupled(puzzle), tupled(spots)
    check_kind(book, number)
    check_places(puzzle, spots)
    if len(spots) != book[2][number][0]:
        raise Unfit()
    places, ties, told, shown = puzzle
    return places, as_set(ties + ((number, spots),)), told, shown


def without_tie(puzzle, tie):
    """The puzzle without this tie."""
    puzzle, tie = tupled(puzzle), tupled(tie)
    places, ties, told, shown = puzzle
    if tie not in ties:
        raise Unfit()
    return places, tuple([kept for kept in ties if kept != tie]), told, shown


def needless_ties(book, puzzle):
    """The set of the ties without which, that one alone, the puzzle has the same settings."""
    book, puzzle = tupled(book), tupled(puzzle)
    # without a tie no setting goes, so the settings are the same if they are as many
    total, (places, ties, told, _) = counted_settings(book, puzzle), puzzle
    fewer = [(tie, tuple([kept for kept in ties if kept != tie])) for tie in ties]
    return tuple([tie for tie, rest in fewer if counted_settings(book, (places, rest, told, ())) == total])


def with_told(book, puzzle, place, value):
    """The puzzle told this value at the place, instead of what is told there."""
    book, puzzle = tupled(book), tupled(puzzle)
    check_places(puzzle, (place,))
    check_values(book, (value,))
    if not book[1]:
        raise Unfit()
    places, ties, told, shown = puzzle
    others = [pair for pair in told if pair[0] != place]
    return places, ties, as_set(others + [(place, value)]), shown


def without_told(puzzle, place):
    """The puzzle told nothing at the place."""
    puzzle = tupled(puzzle)
    check_places(puzzle, (place,))
    places, ties, told, shown = puzzle
    others = tuple([pair for pair in told if pair[0] != place])
    if others == told:
        raise Unfit()
    return places, ties, others, shown


def with_shown(puzzle, shown):
    """The puzzle with these places shown instead."""
    puzzle, shown = tupled(puzzle), tupled(shown)
    check_places(puzzle, shown)
    return puzzle[:3] + (shown,)


def with_place(puzzle):
    """The puzzle with one place more, behind all."""
    puzzle = tupled(puzzle)
    return (puzzle[0] + 1,) + puzzle[1:]


def moved_ties(ties, names):
    """The list of the ties, names telling for each place the one that it becomes."""
    return [(number, tuple([names[spot] for spot in spots])) for number, spots in ties]


def merged(puzzle, place, twin):
    """The puzzle with both places made one."""
    puzzle = tupled(puzzle)
    check_places(puzzle, (place, twin))
    if place == twin:
        return puzzle
    places, ties, told, shown = puzzle
    least, most = min(place, twin), max(place, twin)
    names = [spot - 1 if spot > most else spot for spot in range(places)]
    names[most] = least
    pairs = as_set([(names[spot], value) for spot, value in told])
    if not is_ascending([spot for spot, _ in pairs]):
        raise Unfit()
    return places - 1, as_set(moved_ties(ties, names)), pairs, tuple([names[spot] for spot in shown])


def beside(one, other):
    """All of one, then all of other."""
    one, other = tupled(one), tupled(other)
    names = list(range(one[0], one[0] + other[0]))
    ties = as_set(one[1] + tuple(moved_ties(other[1], names)))
    told = one[2] + tuple([(names[place], value) for place, value in other[2]])
    return one[0] + other[0], ties, told, one[3] + tuple([names[place] for place in other[3]])
