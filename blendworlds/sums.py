"""Books that have sums: the settings of their puzzles, counted by steps from one to another."""

from itertools import combinations

from blendworlds.blends import broken_rows
from blendworlds.checks import check_places, is_tuple, tupled
from blendworlds.errors import CanNot, Unfit
from blendworlds.papers import tie_puzzle
from blendworlds.puzzles import is_puzzle, is_setting
from blendworlds.search import first_values, net_of
from blendworlds.tuples import choices


def sums_blend(many):
    """The blend of three that makes a - b + c of a, b, c, of so many values, reckoned round."""
    return tuple([(one - two + three) % many for one, two, three in choices(list(range(many)), 3)])


def sum_of(many, rows):
    """The first of three rows, less the second, and the third added."""
    return tuple([(one - two + three) % many for one, two, three in zip(rows[0], rows[1], rows[2])])


def is_closed(many, rows):
    """Whether any three of rows, the second taken from the first and the third added, make one of rows."""
    # it is so for any second row if it is for the first of rows: so the differences from it added make such again
    for at in range(1, len(rows)):
        for other in rows[at:]:
            if sum_of(many, (rows[at], rows[0], other)) not in rows:
                return False
    return True


def has_sums(book):
    """Whether that blend keeps the book."""
    many, _, kinds = tupled(book)
    return all([is_closed(many, rows) for _, rows in kinds])


def sums_paper(book):
    """A puzzle and three settings of it, the first of which, less the second, and the third added, make none."""
    book = tupled(book)
    blend = sums_blend(book[0])
    for number in range(len(book[2])):
        rows = broken_rows(book, 3, blend, number)
        if rows is not None:
            return tie_puzzle(book, number), rows
    raise CanNot()


def is_sums_paper(book, thing):
    """Whether thing is a puzzle and three settings of it that make none so."""
    book = tupled(book)
    if not is_tuple(thing, 2) or not is_puzzle(book, thing[0]) or not is_tuple(thing[1], 3):
        return False
    puzzle, three = thing
    if not all([is_setting(book, puzzle, part) for part in three]):
        return False
    return not is_setting(book, puzzle, sum_of(book[0], three))


def added(many, one, step, times):
    """The row one with the step added so often."""
    return tuple([(value + times * more) % many for value, more in zip(one, step)])


def step_from(many, net, left, setting, place):
    """A step that is 0 ahead of the place and 1 there, of the settings of net and left; None if there is none."""
    value = (setting[place] + 1) % many
    if value == setting[place] or value not in left[place]:
        return None
    found = net.some([(one,) for one in setting[:place]] + [(value,)] + left[place + 1:])
    return None if found is None else added(many, found, setting, -1)


def cleared_steps(many, pairs):
    """The steps of pairs of a place and a step that begins there, each made 0 at the places of those behind it."""
    cleared = []
    for place, step in reversed(pairs):
        for other, behind in cleared:
            step = added(many, step, behind, -step[other])
        cleared.append((place, step))
    return list(reversed(cleared))


def leading_steps(book, puzzle):
    """The ascending list of the pairs of a free place and its first step."""
    if not has_sums(book):
        raise Unfit()
    net = net_of(book, puzzle)
    left = net.narrowed(first_values(book, puzzle), list(net.needs))
    setting = None if left is None else net.some(left)
    if setting is None:
        raise CanNot()
    steps = [(place, step_from(book[0], net, left, setting, place)) for place in range(puzzle[0])]
    return cleared_steps(book[0], [pair for pair in steps if pair[1] is not None])


def free_places(book, puzzle):
    """The set of the places each of which is, of some step, the first one at which it is not 0."""
    return tuple([place for place, _ in leading_steps(tupled(book), tupled(puzzle))])


def first_steps(book, puzzle):
    """For each of the free places the step that is 1 there and 0 at all others of them."""
    return [step for _, step in leading_steps(tupled(book), tupled(puzzle))]


def how_many_steps(book, puzzle):
    """How many first steps there are."""
    return len(first_steps(book, puzzle))


def steps_of(book, puzzle):
    """The ascending list of all steps."""
    many, found = book[0], [(0,) * puzzle[0]]
    for step in first_steps(book, puzzle):
        found = [added(many, one, step, times) for one in found for times in range(many)]
    return sorted(found)


def cleared_at(many, row, lead, place):
    """The row with lead, which is not 0 at the place, added so often that it is 0 there."""
    fitting = [times for times in range(many) if (row[place] + times * lead[place]) % many == 0]
    return added(many, row, lead, fitting[0])


def cleared_there(many, steps, places):
    """How many of the steps, none of which is made of others, are so looked at in these places alone; and the others.

    The others are 0 at these places, and all steps that are so are made of them.
    """
    found = 0
    for place in places:
        leads = [step for step in steps if step[place]]
        if leads:
            found = found + 1
            steps = [cleared_at(many, step, leads[0], place) for step in steps if step != leads[0]]
    return found, steps


def rank(many, steps, places):
    """How many of the steps, none of which is made of others, are so looked at in these places alone."""
    found, _ = cleared_there(many, steps, places)
    return found


def are_free(book, puzzle, places):
    """Whether settings have all tuples of values at these places."""
    steps = first_steps(book, puzzle)
    check_places(puzzle, places)
    # of one value there is one tuple alone, which needs no step
    return book[0] == 1 or rank(book[0], steps, places) == len(places)


def are_enough(book, puzzle, places):
    """Whether no two settings are alike at all of these places."""
    steps = first_steps(book, puzzle)
    check_places(puzzle, places)
    return rank(book[0], steps, places) == len(steps)


def fewest_enough(book, puzzle):
    """The least set of as few places as can be that are enough."""
    # place by place, from the first on, what those ahead do not tell yet
    return free_places(book, puzzle)


def how_many_enough(book, puzzle):
    """How many sets of as few places as can be are enough."""
    steps = first_steps(book, puzzle)
    sets = list(combinations(range(puzzle[0]), len(steps)))
    return len([places for places in sets if rank(book[0], steps, places) == len(steps)])


def set_by(book, puzzle, places):
    """The set of the places at which any two settings are alike that are alike at these places."""
    steps = first_steps(book, puzzle)
    check_places(puzzle, places)
    _, others = cleared_there(book[0], steps, places)
    return tuple([place for place in range(puzzle[0]) if not any([step[place] for step in others])])


def step_at(book, puzzle, place):
    """A step that is not 0 at the place, None if there is none."""
    steps = first_steps(book, puzzle)
    check_places(puzzle, (place,))
    moving = [step for step in steps if step[place]]
    return moving[0] if moving else None
