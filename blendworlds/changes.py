"""Changes of puzzles and of books: what they reach, what is needless, what is to blame."""

from blendworlds.blends import blends, how_many_blends
from blendworlds.books import with_kind, without_kind
from blendworlds.checks import as_set, is_below, is_tuple, tupled
from blendworlds.errors import Unfit
from blendworlds.hits import barest_hits, chosen_of, fewest_of, has_all, mark_of
from blendworlds.puzzles import is_tie, keeps_tie, parts_of
from blendworlds.search import counted_settings, found_settings
from blendworlds.strikes import left_at
from blendworlds.tuples import choices

BACK = {"tie": "untie", "untie": "tie", "tell": "untell", "untell": "tell"}


def is_told_pair(book, puzzle, thing):
    """Whether thing is a pair of a place of the puzzle and a value of the book."""
    return is_tuple(thing, 2) and is_below(thing[0], puzzle[0]) and is_below(thing[1], book[0])


def is_off(puzzle, word, part):
    """Whether the puzzle has what this word takes away."""
    return word == "untie" and part in puzzle[1] or word == "untell" and part in puzzle[2]


def is_on(book, puzzle, word, part):
    """Whether what this word brings may come to the puzzle."""
    if word == "tie":
        return part not in puzzle[1]
    return word == "tell" and book[1] and part[0] not in dict(puzzle[2])


def is_change(book, puzzle, thing):
    """Whether thing is a change of the puzzle."""
    book, puzzle = tupled(book), tupled(puzzle)
    if not is_tuple(thing, 2):
        return False
    word, part = thing
    if word in ("tie", "untie"):
        fits = is_tie(book, puzzle[0], part)
    else:
        fits = word in ("tell", "untell") and is_told_pair(book, puzzle, part)
    return fits and (is_off(puzzle, word, part) or is_on(book, puzzle, word, part))


def check_change(book, puzzle, change):
    """Raises Unfit if this is no change of the puzzle."""
    if not is_change(book, puzzle, change):
        raise Unfit()


def changed(puzzle, change):
    """The puzzle behind the change."""
    places, ties, told, shown = puzzle
    word, part = change
    if word == "tie":
        return places, as_set(ties + (part,)), told, shown
    if word == "untie":
        return places, tuple([tie for tie in ties if tie != part]), told, shown
    if word == "tell":
        return places, ties, as_set(told + (part,)), shown
    return places, ties, tuple([pair for pair in told if pair != part]), shown


def behind(book, puzzle, changes):
    """The puzzle behind the changes, done one behind another."""
    book, puzzle = tupled(book), tupled(puzzle)
    for change in tupled(changes):
        check_change(book, puzzle, change)
        puzzle = changed(puzzle, change)
    return puzzle


def back_of(changes):
    """The changes that lead back."""
    return tuple([(BACK[word], part) for word, part in reversed(tupled(changes))])


def all_changes(one, other):
    """As few changes as lead from one to other, those that take away first; None if none lead there."""
    if one[0] != other[0] or one[3] != other[3]:
        return None
    offs = [("untie", tie) for tie in one[1] if tie not in other[1]]
    offs.extend([("untell", pair) for pair in one[2] if pair not in other[2]])
    ons = [("tie", tie) for tie in other[1] if tie not in one[1]]
    ons.extend([("tell", pair) for pair in other[2] if pair not in one[2]])
    return tuple(offs + ons)


def fewest_changes(book, one, other):
    """How few changes lead from one puzzle to the other, None if none do."""
    changes = all_changes(tupled(one), tupled(other))
    return None if changes is None else len(changes)


def change_way(book, one, other):
    """As few changes as can be that lead from one puzzle to the other, None if none do."""
    return all_changes(tupled(one), tupled(other))


def is_change_way(book, one, other, thing):
    """Whether thing is a tuple of as few changes as can be that lead from one puzzle to the other."""
    book, puzzle, other = tupled(book), tupled(one), tupled(other)
    changes = all_changes(puzzle, other)
    if changes is None or not is_tuple(thing, len(changes)):
        return False
    for change in thing:
        if not is_change(book, puzzle, change):
            return False
        puzzle = changed(puzzle, change)
    return puzzle == other


def ahead_and_behind(book, puzzle, change):
    """The book, and the puzzle ahead of the change and behind it."""
    book, puzzle, change = tupled(book), tupled(puzzle), tupled(change)
    check_change(book, puzzle, change)
    return book, puzzle, changed(puzzle, change)


def places_of(change):
    """The places that the change names."""
    word, (first, second) = change
    return second if word in ("tie", "untie") else (first,)


def touched(book, puzzle, change):
    """The set of the places that hang together with a place of the change, ahead of it or behind it."""
    _, first, then = ahead_and_behind(book, puzzle, change)
    places = places_of(change)
    parts = [part for part in parts_of(first) + parts_of(then) if any([place in part for place in places])]
    return as_set([place for part in parts for place in part])


def without_rows(rows, others):
    """The list of those of rows that are none of others."""
    known = {row: True for row in others}
    return [row for row in rows if row not in known]


def lost_settings(book, puzzle, change):
    """The ascending list of the settings ahead of the change that are none behind it."""
    book, first, then = ahead_and_behind(book, puzzle, change)
    return without_rows(found_settings(book, first), found_settings(book, then))


def won_settings(book, puzzle, change):
    """The ascending list of the settings behind the change that are none ahead of it."""
    book, first, then = ahead_and_behind(book, puzzle, change)
    return without_rows(found_settings(book, then), found_settings(book, first))


def values_there(rows, place):
    """The set of the values that rows have at the place."""
    return as_set([row[place] for row in rows])


def turned_places(book, puzzle, change):
    """The set of the places at which settings ahead and behind have not the same set of values."""
    book, first, then = ahead_and_behind(book, puzzle, change)
    rows, others = found_settings(book, first), found_settings(book, then)
    return tuple([place for place in range(first[0]) if values_there(rows, place) != values_there(others, place)])


def left_pairs(book, puzzle):
    """The ascending list of the pairs of a place and a value that striking leaves there."""
    return [(place, value) for place, values in enumerate(left_at(book, puzzle)) for value in values]


def strikes_more(book, puzzle, change):
    """The set of the pairs that striking leaves ahead of the change and not behind it."""
    book, first, then = ahead_and_behind(book, puzzle, change)
    return tuple(without_rows(left_pairs(book, first), left_pairs(book, then)))


def strikes_back(book, puzzle, change):
    """The set of the pairs that striking leaves behind the change and not ahead of it."""
    book, first, then = ahead_and_behind(book, puzzle, change)
    return tuple(without_rows(left_pairs(book, then), left_pairs(book, first)))


def offs_of(puzzle):
    """The ascending list of all offs of the puzzle."""
    return [("untell", pair) for pair in puzzle[2]] + [("untie", tie) for tie in puzzle[1]]


def is_missed(book, row, off):
    """Whether the row does not keep what the off takes away."""
    word, part = off
    return row[part[0]] != part[1] if word == "untell" else not keeps_tie(book, row, part)


def missed_by_all(book, puzzle):
    """The offs of the puzzle, and the list of the sets of their numbers that some tuple of values misses.

    A tuple of values is a setting exactly if it misses none.
    """
    offs = offs_of(puzzle)
    found = {}
    for row in choices(list(range(book[0])), puzzle[0]):
        found[tuple([at for at, off in enumerate(offs) if is_missed(book, row, off)])] = True
    return offs, list(found)


def needless_offs(book, puzzle):
    """The set of the offs each of which, it alone, loses and wins no setting."""
    book, puzzle = tupled(book), tupled(puzzle)
    # without what an off takes away no setting goes, so the settings are the same if they are as many
    total = counted_settings(book, puzzle)
    return tuple([off for off in offs_of(puzzle) if counted_settings(book, changed(puzzle, off)) == total])


def barest(book, puzzle):
    """The least of the greatest sets of offs that, all done, leave the settings as they are."""
    book, puzzle = tupled(book), tupled(puzzle)
    offs, missed = missed_by_all(book, puzzle)
    groups = [mark_of(numbers) for numbers in missed if numbers]
    numbers = list(range(len(offs)))
    for many in reversed(range(len(offs) + 1)):
        for chosen in chosen_of(numbers, many):
            # what is kept must have one of what each tuple of values that is no setting misses
            if has_all(mark_of(numbers) - mark_of(chosen), groups):
                return tuple([offs[at] for at in chosen])
    return ()


def blames(book, puzzle):
    """The ascending list of the sets of offs that alone make a puzzle without settings, and not without any one."""
    book, puzzle = tupled(book), tupled(puzzle)
    offs, missed = missed_by_all(book, puzzle)
    found = barest_hits(list(range(len(offs))), [mark_of(numbers) for numbers in missed])
    return [tuple([offs[at] for at in chosen]) for chosen in found]


def fewest_off(book, puzzle):
    """The least of the smallest sets of offs that make the puzzle solvable."""
    book, puzzle = tupled(book), tupled(puzzle)
    offs, missed = missed_by_all(book, puzzle)
    return tuple([offs[at] for at in fewest_of(missed)])


def lost_blends(book, kind, k):
    """The ascending list of the blends of k that keep the book and not this kind."""
    return without_rows(blends(book, k), blends(with_kind(book, kind), k))


def takes_none(book, kind, k):
    """Whether each blend of k that keeps the book keeps this kind."""
    return how_many_blends(book, k) == how_many_blends(with_kind(book, kind), k)


def freed_blends(book, number, k):
    """The ascending list of the blends of k that keep the book without the kind of this number, not the book."""
    return without_rows(blends(without_kind(book, number), k), blends(book, k))
