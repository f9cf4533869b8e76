"""Least settings by an order of the values, and the books of which each solvable puzzle has one."""

from itertools import permutations

from blendworlds.blends import blend_among, free_puzzle, is_blend, is_keeping, left_among, tuples_of
from blendworlds.books import is_turn
from blendworlds.checks import tupled
from blendworlds.errors import CanNot, Unfit
from blendworlds.papers import puzzle_in
from blendworlds.puzzles import is_setting, is_solvable, settings
from blendworlds.search import first_values, left_told, net_of
from blendworlds.strikes import left_at
from blendworlds.tuples import columns_of


def is_order(book, thing):
    """Whether thing is a tuple of all values of the book, each once."""
    return is_turn(book, thing)


def is_all_beneath(order, one, other):
    """Whether one is beneath other, column by column."""
    return all([order.index(low) <= order.index(high) for low, high in zip(one, other)])


def is_beneath(book, order, one, other):
    """Whether the tuple one is beneath the tuple other."""
    if len(one) != len(other):
        raise Unfit()
    return is_all_beneath(order, one, other)


def least_of(order, values):
    """The value of these that stands first in the order."""
    return order[min([order.index(value) for value in values])]


def lowest(book, order, rows):
    """The tuple of the least values that rows have, column by column."""
    return tuple([least_of(order, column) for column in columns_of(rows)])


def least_setting(book, puzzle, order):
    """The setting that is beneath all settings, None if there is none."""
    book, puzzle = tupled(book), tupled(puzzle)
    net, left = net_of(book, puzzle), first_values(book, puzzle)
    least = []
    for place in range(puzzle[0]):
        values = [value for value in order if net.some(left_told(left, [(place, value)])) is not None]
        least.extend(values[:1])
    # where there is no setting at all it is too short to be one
    return tuple(least) if is_setting(book, puzzle, tuple(least)) else None


def minimal_settings(book, puzzle, order):
    """The ascending list of the settings beneath which there is no other one."""
    ranked = sorted([(sum([order.index(value) for value in row]), row) for row in settings(book, puzzle)])
    found = []
    # what is beneath a setting has less in sum, so stands ahead of it
    for _, row in ranked:
        if not any([is_all_beneath(order, low, row) for low in found]):
            found.append(row)
    return sorted(found)


def least_by_strikes(book, puzzle, order):
    """The tuple of the least values that striking leaves, None if it leaves none at some place."""
    left = left_at(book, puzzle)
    return None if () in left else tuple([least_of(order, values) for values in left])


def beneath_both(book, order):
    """For each two values, ascending, the tuple of the values that are beneath both."""
    return [order[:order.index(least_of(order, values)) + 1] for values in tuples_of(book, 2)]


def some_least_blend(book, order):
    """A blend of two that keeps the book and makes of any two values one beneath both; None if there is none."""
    return blend_among(book, 2, beneath_both(book, order))


def has_leasts(book, order):
    """Whether each solvable puzzle of the book has a least setting."""
    return some_least_blend(tupled(book), order) is not None


def least_orders(book):
    """The ascending list of the orders by which each solvable puzzle of the book has a least setting."""
    book = tupled(book)
    puzzle, found = free_puzzle(book, 2), []
    net, left = net_of(book, puzzle), first_values(book, puzzle)
    for order in permutations(range(book[0])):
        if net.some(left_among(left, beneath_both(book, order))) is not None:
            found.append(order)
    return found


def least_blend(book, order):
    """A blend of two that keeps the book and makes of any two values one beneath both."""
    blend = some_least_blend(tupled(book), order)
    if blend is None:
        raise CanNot()
    return blend


def is_least_blend(book, order, thing):
    """Whether thing is a blend of two that keeps the book and makes of any two values one beneath both."""
    book = tupled(book)
    if not is_blend(book, 2, thing):
        return False
    for values, value in zip(tuples_of(book, 2), thing):
        if not is_all_beneath(order, (value, value), values):
            return False
    return is_keeping(book, 2, thing)


def leastless_puzzle(book, order):
    """A solvable puzzle without a least setting."""
    book = tupled(book)
    puzzle = free_puzzle(book, 2)
    if net_of(book, puzzle).some(left_among(first_values(book, puzzle), beneath_both(book, order))) is not None:
        raise CanNot()
    return puzzle


def is_leastless(book, order, thing):
    """Whether thing is a solvable puzzle without a least setting."""
    book = tupled(book)
    puzzle = puzzle_in(book, thing)
    return puzzle is not None and is_solvable(book, puzzle) and least_setting(book, puzzle, order) is None
