"""One judge of all that a book can promise: whether it keeps a promise, and what shows that it does not."""

from blendworlds.blends import broken_rows, is_blend, is_keeping, made_of
from blendworlds.books import with_kind, without_kind
from blendworlds.checks import are_below, check_kind, is_ascending, is_number, is_tuple, tupled
from blendworlds.errors import CanNot, NoWord, Unfit
from blendworlds.hits import chosen_of
from blendworlds.leasts import has_leasts, is_leastless, is_order, leastless_puzzle
from blendworlds.pairs import goes_by_pairs, is_pairs_paper, pairs_paper
from blendworlds.papers import tie_puzzle
from blendworlds.puzzles import is_puzzle, is_setting
from blendworlds.showing import can_be_stuck, follows, is_parting_puzzle, is_stuck_puzzle, parting_puzzle, stuck_puzzle
from blendworlds.spared import are_spared, is_wanting, wanting_puzzle
from blendworlds.strikes import is_undecided, strikes_decide, undecided_puzzle
from blendworlds.sums import has_sums, is_sums_paper, sums_paper
from blendworlds.tuples import are_of_one_length

# the words that begin promises, and how long these are
LENGTHS = {"follows": 3, "solvable": 1, "spared": 2, "least": 2, "strikes": 1, "pairs": 1, "sums": 1, "blend": 3}


def fits_follows(book, rows, row):
    """Whether rows are one or more tuples of values of one length, and row is one."""
    if not isinstance(rows, tuple) or not rows:
        return False
    every = rows + (row,)
    return all([are_below(part, book[0]) for part in every]) and are_of_one_length(every)


def is_promise(book, thing):
    """Whether thing is a promise of the book."""
    book = tupled(book)
    if not isinstance(thing, tuple) or not thing or not isinstance(thing[0], str) or thing[0] not in LENGTHS:
        return False
    word = thing[0]
    if len(thing) != LENGTHS[word]:
        return False
    if word == "follows":
        return fits_follows(book, thing[1], thing[2])
    if word == "spared":
        return are_below(thing[1], book[0]) and is_ascending(thing[1])
    if word == "least":
        return is_order(book, thing[1])
    if word == "blend":
        return is_number(thing[1]) and 1 <= thing[1] <= 3 and is_blend(book, thing[1], thing[2])
    return word != "pairs" or book[0] <= 2


def check_promise(book, promise):
    """Raises the error for what is no promise of the book, if it is none."""
    if promise[0] not in LENGTHS:
        raise NoWord(promise[0])
    if not is_promise(book, promise):
        raise Unfit()


def keeps(book, promise):
    """Whether the book keeps what is a promise of it."""
    word = promise[0]
    if word == "follows":
        return follows(book, promise[1], promise[2])
    if word == "solvable":
        return not can_be_stuck(book)
    if word == "spared":
        return are_spared(book, promise[1])
    if word == "least":
        return has_leasts(book, promise[1])
    if word == "strikes":
        return strikes_decide(book)
    if word == "pairs":
        return goes_by_pairs(book)
    if word == "sums":
        return has_sums(book)
    return is_keeping(book, promise[1], promise[2])


def is_kept(book, promise):
    """Whether the book keeps the promise."""
    book, promise = tupled(book), tupled(promise)
    check_promise(book, promise)
    return keeps(book, promise)


def paper_of_strikes(book):
    """A puzzle that is not struck empty and has no setting."""
    puzzle = undecided_puzzle(book)
    if puzzle is None:
        raise CanNot()
    return puzzle


def paper_of_blend(book, k, blend):
    """A puzzle and a tuple of k settings of it of which the blend makes none."""
    for number in range(len(book[2])):
        rows = broken_rows(book, k, blend, number)
        if rows is not None:
            return tie_puzzle(book, number), rows
    for value in range(book[0]):
        rows = ((value,),) * k
        if book[1] and made_of(book, blend, rows) != (value,):
            return (1, (), ((0, value),), ()), rows
    raise CanNot()


def a_paper(book, promise):
    """What shows that the book does not keep the promise."""
    book, promise = tupled(book), tupled(promise)
    check_promise(book, promise)
    word = promise[0]
    if word == "follows":
        return parting_puzzle(book, promise[1], promise[2])
    if word == "solvable":
        return stuck_puzzle(book)
    if word == "spared":
        return wanting_puzzle(book, promise[1])
    if word == "least":
        return leastless_puzzle(book, promise[1])
    if word == "strikes":
        return paper_of_strikes(book)
    if word == "pairs":
        return pairs_paper(book)
    if word == "sums":
        return sums_paper(book)
    return paper_of_blend(book, promise[1], promise[2])


def is_blend_paper(book, k, blend, thing):
    """Whether thing is a puzzle and a tuple of k settings of it of which the blend makes none."""
    if not is_tuple(thing, 2) or not is_puzzle(book, thing[0]) or not is_tuple(thing[1], k):
        return False
    puzzle, rows = thing
    if not all([is_setting(book, puzzle, row) for row in rows]):
        return False
    return not is_setting(book, puzzle, made_of(book, blend, rows))


def is_paper(book, promise, thing):
    """Whether thing shows that the book does not keep the promise."""
    book, promise = tupled(book), tupled(promise)
    check_promise(book, promise)
    word = promise[0]
    if word == "follows":
        return is_parting_puzzle(book, promise[1], promise[2], thing)
    if word == "solvable":
        return is_stuck_puzzle(book, thing)
    if word == "spared":
        return is_wanting(book, promise[1], thing)
    if word == "least":
        return is_leastless(book, promise[1], thing)
    if word == "strikes":
        return is_undecided(book, thing)
    if word == "pairs":
        return is_pairs_paper(book, thing)
    if word == "sums":
        return is_sums_paper(book, thing)
    return is_blend_paper(book, promise[1], promise[2], thing)


def check_promises(book, promises):
    """Raises the error for the first of promises that is none of the book, if one is."""
    for promise in promises:
        check_promise(book, promise)


def all_kept(book, promises):
    """The list of the numbers of those of the promises that the book keeps."""
    return [at for at, promise in enumerate(promises) if keeps(book, promise)]


def kept_of(book, promises):
    """The set of the numbers of those of the promises that the book keeps."""
    book, promises = tupled(book), tupled(promises)
    check_promises(book, promises)
    return tuple(all_kept(book, promises))


def fall_with(book, kind, promises):
    """The set of the numbers of those of the promises that the book keeps, but not with this kind, too."""
    book, promises = tupled(book), tupled(promises)
    check_promises(book, promises)
    more = with_kind(book, kind)
    return tuple([at for at in all_kept(book, promises) if not keeps(more, promises[at])])


def come_without(book, number, promises):
    """The set of the numbers of those of the promises that the book keeps just without the kind of this number."""
    book, promises = tupled(book), tupled(promises)
    check_kind(book, number)
    check_promises(book, promises)
    # a kind less breaks no promise
    kept = all_kept(book, promises)
    return tuple([at for at in all_kept(without_kind(book, number), promises) if at not in kept])


def all_sets(book):
    """The list of all sets of numbers of kinds of the book, the smaller ones first."""
    numbers = list(range(len(book[2])))
    return [chosen for many in range(len(numbers) + 1) for chosen in chosen_of(numbers, many)]


def with_just(book, numbers):
    """The book with just the kinds of these numbers."""
    return book[0], book[1], tuple([book[2][number] for number in numbers])


def rest_of(book, numbers):
    """The set of the numbers of all other kinds of the book."""
    return tuple([number for number in range(len(book[2])) if number not in numbers])


def has_within(sets, numbers):
    """Whether one of the sets is within this one."""
    return any([all([number in numbers for number in chosen]) for chosen in sets])


def blamed_kinds(book, promise):
    """The ascending list of the sets of kinds with just which the promise is not kept, but is with any less."""
    book, promise = tupled(book), tupled(promise)
    check_promise(book, promise)
    found = []
    for numbers in all_sets(book):
        # a kind less breaks no promise, so that what has one of those found within need not be looked at
        if not has_within(found, numbers) and not keeps(with_just(book, numbers), promise):
            found.append(numbers)
    return sorted(found)


def kinds_to_go(book, promise):
    """The ascending list of the sets of kinds without which the promise is kept, but is not without just some."""
    book, promise = tupled(book), tupled(promise)
    check_promise(book, promise)
    found = []
    for numbers in all_sets(book):
        if not has_within(found, numbers) and keeps(with_just(book, rest_of(book, numbers)), promise):
            found.append(numbers)
    return sorted(found)
