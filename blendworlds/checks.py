"""What is handed in: tuples in the place of lists, what things are, and the errors for numbers of nothing."""

from blendworlds.errors import NoKind, NoPlace, NoValue


def tupled(given):
    """What is given, with tuples in the place of lists, at any depth."""
    if isinstance(given, (list, tuple)):
        return tuple([part if isinstance(part, int) else tupled(part) for part in given])
    return given


def as_set(members):
    """The ascending tuple of members, each once."""
    return tuple(sorted(set(members)))


def is_number(thing):
    """Whether thing is a number."""
    # to Python True and False are integers, to the document they are no numbers
    return isinstance(thing, int) and not isinstance(thing, bool)


def is_below(thing, many):
    """Whether thing is one of the numbers 0, 1, .. that are less than many."""
    return is_number(thing) and 0 <= thing < many


def is_tuple(thing, length):
    """Whether thing is a tuple of this length."""
    return isinstance(thing, tuple) and len(thing) == length


def are_below(thing, many):
    """Whether thing is a tuple of numbers that are all below many."""
    return isinstance(thing, tuple) and all([is_below(part, many) for part in thing])


def is_ascending(rows):
    """Whether rows stand in ascending order, none twice; they must be such that Python compares them."""
    return all([low < high for low, high in zip(rows, rows[1:])])


def check_kind(book, number):
    """Raises NoKind if book has no kind of this number."""
    if not is_below(number, len(book[2])):
        raise NoKind(number)


def check_places(puzzle, numbers):
    """Raises NoPlace for the first one of numbers that is no place of puzzle."""
    for number in numbers:
        if not is_below(number, puzzle[0]):
            raise NoPlace(number)


def check_values(book, numbers):
    """Raises NoValue for the first one of numbers that is no value of book."""
    for number in numbers:
        if not is_below(number, book[0]):
            raise NoValue(number)
