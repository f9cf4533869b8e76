"""Spared values: those that solvable puzzles of a book can do without, and books that fold into others."""

from blendworlds.blends import free_puzzle
from blendworlds.books import with_telling, without_values
from blendworlds.checks import are_below, check_values, is_tuple, tupled
from blendworlds.errors import CanNot, Unfit
from blendworlds.papers import puzzle_in
from blendworlds.puzzles import is_solvable
from blendworlds.search import first_values, net_of


def others_of(book, values):
    """The set of all values of the book but these."""
    return tuple([value for value in range(book[0]) if value not in values])


def blends_searched(book):
    """The net and the left of the free puzzle of one, whose settings are the blends of one that keep the book."""
    puzzle = free_puzzle(book, 1)
    return net_of(book, puzzle), first_values(book, puzzle)


def setting_among(net, left, values):
    """A setting, by the net and the left of all settings, that has these values alone; None if there is none."""
    return net.some([tuple([value for value in kept if value in values]) for kept in left])


def blend_without(book, values):
    """A blend of one that keeps the book and makes none of the values; None if there is none."""
    net, left = blends_searched(book)
    return setting_among(net, left, others_of(book, values))


def are_spared(book, values):
    """Whether each solvable puzzle of the book has a setting without any of the values."""
    book = tupled(book)
    check_values(book, values)
    return blend_without(book, values) is not None


def sparing_blend(book, values):
    """A blend of one that keeps the book and makes none of the values."""
    book = tupled(book)
    check_values(book, values)
    blend = blend_without(book, values)
    if blend is None:
        raise CanNot()
    return blend


def wanting_puzzle(book, values):
    """A solvable puzzle of the book, each setting of which has one of the values."""
    book = tupled(book)
    if are_spared(book, values):
        raise CanNot()
    return free_puzzle(book, 1)


def is_wanting(book, values, thing):
    """Whether thing is a solvable puzzle of the book, each setting of which has one of the values."""
    book = tupled(book)
    check_values(book, values)
    puzzle = puzzle_in(book, thing)
    if puzzle is None:
        return False
    net, left = net_of(book, puzzle), first_values(book, puzzle)
    if net.some(left) is None:
        return False
    return setting_among(net, left, others_of(book, values)) is None


def greatest_of(book, blends):
    """The ascending list of the greatest sets of values that some of all blends of one do without."""
    spared = [others_of(book, blend) for blend in blends]
    # all that are as great as can be have as many values
    most = max([len(values) for values in spared])
    return sorted(set([values for values in spared if len(values) == most]))


def greatest_spared(book):
    """The ascending list of the spared sets of values that are as great as can be."""
    book = tupled(book)
    net, left = blends_searched(book)
    return greatest_of(book, net.all_rows(left))


def wanted_values(book):
    """The set of the values that are not spared, each by itself."""
    book = tupled(book)
    net, left = blends_searched(book)
    made = net.all_rows(left)
    return tuple([value for value in range(book[0]) if all([value in blend for blend in made])])


def is_small(book):
    """Whether no value is spared."""
    return len(wanted_values(book)) == book[0]


def small_book(book):
    """The book without the values of its least greatest spared set."""
    return without_values(book, greatest_spared(book)[0])


def taken_out(book, order):
    """The book that is left when each value, in this order, is taken out that is spared then."""
    gone = []
    for value in order:
        left = others_of(book, gone)
        if are_spared(without_values(book, gone), (left.index(value),)):
            gone.append(value)
    return without_values(book, gone)


def folding(book):
    """A tuple of values by which the book folds into its small book."""
    book = tupled(book)
    net, left = blends_searched(book)
    kept = others_of(book, greatest_of(book, net.all_rows(left))[0])
    return tuple([kept.index(value) for value in setting_among(net, left, kept)])


def check_folds(one, other):
    """Raises Unfit if both books have not as many kinds of the same widths."""
    if [width for width, _ in one[2]] != [width for width, _ in other[2]]:
        raise Unfit()


def is_folding(one, other, thing):
    """Whether thing is a tuple of values by which one folds into other."""
    one, other = tupled(one), tupled(other)
    check_folds(one, other)
    if not is_tuple(thing, one[0]) or not are_below(thing, other[0]):
        return False
    for (_, rows), (_, others) in zip(one[2], other[2]):
        if not all([tuple([thing[value] for value in row]) in others for row in rows]):
            return False
    return True


def unfolded(book, setting):
    """The tuple of values of the small book, with the values of the book for which they stand."""
    left = others_of(book, greatest_spared(book)[0])
    return tuple([left[value] for value in setting])


def folding_puzzle(one):
    """The puzzle of the values of one, whose settings by other are the tuples by which one folds into it."""
    return free_puzzle(with_telling(one, False), 1)


def solves_too(one, other):
    """Whether each puzzle without told places that is solvable by one is solvable by other."""
    one, other = tupled(one), tupled(other)
    check_folds(one, other)
    return is_solvable(other, folding_puzzle(one))


def unsolved_puzzle(one, other):
    """A puzzle without told places that is solvable by one, not by other."""
    if solves_too(one, other):
        raise CanNot()
    return folding_puzzle(one)


def is_unsolved(one, other, thing):
    """Whether thing is a puzzle without told places that is solvable by one, not by other."""
    one, other = tupled(one), tupled(other)
    check_folds(one, other)
    puzzle = puzzle_in(with_telling(one, False), thing)
    return puzzle is not None and is_solvable(one, puzzle) and not is_solvable(other, puzzle)
