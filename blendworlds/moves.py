"""Moves from setting to setting, ways of moves, and whether ways lead from each setting to each other one."""

from blendworlds.blends import blend_at, is_keeping, made_of
from blendworlds.books import single_kinds
from blendworlds.checks import as_set, check_values, is_below, is_tuple, tupled
from blendworlds.errors import Unfit
from blendworlds.puzzles import parts_of
from blendworlds.search import found_settings
from blendworlds.tuples import choices


def moved(setting, place, value):
    """The setting with this value at the place."""
    return setting[:place] + (value,) + setting[place + 1:]


def needs_near(book, puzzle):
    """For each place the list of what settings must keep there: pairs of spots and the rows that may stand there."""
    near = [[] for _ in range(puzzle[0])]
    for number, spots in puzzle[1]:
        for place in sorted(set(spots)):
            near[place].append((spots, book[2][number][1]))
    for place, value in puzzle[2]:
        near[place].append(((place,), ((value,),)))
    return near


def are_kept(needs, setting):
    """Whether the setting keeps all of these."""
    for spots, rows in needs:
        if tuple([setting[spot] for spot in spots]) not in rows:
            return False
    return True


def moves_at(many, near, setting, places):
    """The list of the open moves at these places, each with the setting behind it, of so many values."""
    found = []
    for place in places:
        for value in range(many):
            if value != setting[place]:
                behind = moved(setting, place, value)
                if are_kept(near[place], behind):
                    found.append(((place, value), behind))
    return found


def all_moves(many, near, setting):
    """The list of all open moves, each with the setting behind it, of so many values."""
    return moves_at(many, near, setting, list(range(len(setting))))


def behind_move(many, near, setting, thing):
    """The setting behind the open move that thing is, None if it is none."""
    if not is_tuple(thing, 2) or not is_below(thing[0], len(setting)) or not is_below(thing[1], many):
        return None
    place, value = thing
    behind = moved(setting, place, value)
    return behind if value != setting[place] and are_kept(near[place], behind) else None


def is_move(book, puzzle, setting, thing):
    """Whether thing is an open move."""
    book, puzzle = tupled(book), tupled(puzzle)
    return behind_move(book[0], needs_near(book, puzzle), tupled(setting), thing) is not None


def open_moves(book, puzzle, setting):
    """The set of the open moves."""
    book, puzzle, setting = tupled(book), tupled(puzzle), tupled(setting)
    return tuple([move for move, _ in all_moves(book[0], needs_near(book, puzzle), setting)])


def end_of(book, puzzle, setting, thing):
    """The setting to which thing, if it is a way from there, leads; None if it is no way."""
    if not isinstance(thing, tuple):
        return None
    near = needs_near(book, puzzle)
    for move in thing:
        setting = behind_move(book[0], near, setting, move)
        if setting is None:
            return None
    return setting


def is_way(book, puzzle, setting, thing):
    """Whether thing is a way from there."""
    return end_of(tupled(book), tupled(puzzle), tupled(setting), thing) is not None


def settings_along(setting, way):
    """The list of the settings along the way, the first one and that behind each move."""
    found = [tupled(setting)]
    for place, value in way:
        found.append(moved(found[-1], place, value))
    return found


def turned_back(setting, way):
    """The way back by the same settings."""
    along = settings_along(setting, way)
    back = [(place, ahead[place]) for (place, _), ahead in zip(way, along)]
    return tuple(reversed(back))


def moves_within(many, near, part, one, other):
    """The list of as few open moves as can be, of places of the part, from one to other; None if there is none."""
    found, fresh = {one: ()}, [one]
    while fresh and other not in found:
        behind = []
        for setting in fresh:
            for move, row in moves_at(many, near, setting, part):
                if row not in found:
                    found[row] = (setting, move)
                    behind.append(row)
        fresh = behind
    if other not in found:
        return None
    moves = []
    while found[other]:
        other, move = found[other]
        moves.append(move)
    return list(reversed(moves))


def a_way(book, puzzle, one, other):
    """A way of as few moves as can be from one setting to another one, None if there is none."""
    book, puzzle, one, other = tupled(book), tupled(puzzle), tupled(one), tupled(other)
    near, way = needs_near(book, puzzle), []
    # no move of a part bears on another one
    for part in parts_of(puzzle):
        end = tuple([other[place] if place in part else value for place, value in enumerate(one)])
        moves = moves_within(book[0], near, part, one, end)
        if moves is None:
            return None
        way.extend(moves)
    return tuple(way)


def leads(book, puzzle, one, other):
    """Whether a way leads from one setting to another one."""
    return a_way(book, puzzle, one, other) is not None


def fewest_moves(book, puzzle, one, other):
    """How few moves lead from one setting to another one, None if none do."""
    way = a_way(book, puzzle, one, other)
    return None if way is None else len(way)


def is_fewest_way(book, puzzle, one, other, thing):
    """Whether thing is a way of as few moves as can be from one setting to another one."""
    end = end_of(tupled(book), tupled(puzzle), tupled(one), thing)
    return end is not None and end == tupled(other) and len(thing) == fewest_moves(book, puzzle, one, other)


def part_from(many, near, setting, taken):
    """The set of the settings to which ways lead from this one; all of them come to the dict taken, too."""
    found, at = [setting], 0
    taken[setting] = True
    while at < len(found):
        behind = [row for _, row in all_moves(many, near, found[at]) if row not in taken]
        for row in behind:
            taken[row] = True
            found.append(row)
        at += 1
    return as_set(found)


def setting_parts(book, puzzle):
    """The ascending list of the sets of settings that lead to one another."""
    book, puzzle = tupled(book), tupled(puzzle)
    near, taken, found = needs_near(book, puzzle), {}, []
    for setting in found_settings(book, puzzle):
        if setting not in taken:
            found.append(part_from(book[0], near, setting, taken))
    return found


def stuck_places(book, puzzle, setting):
    """The set of the places at which no move is open."""
    book, puzzle = tupled(book), tupled(puzzle)
    going = [place for place, _ in open_moves(book, puzzle, setting)]
    return tuple([place for place in range(puzzle[0]) if place not in going])


def frozen_settings(book, puzzle):
    """The ascending list of the settings from which no move is open."""
    book, puzzle = tupled(book), tupled(puzzle)
    near = needs_near(book, puzzle)
    return [row for row in found_settings(book, puzzle) if not all_moves(book[0], near, row)]


def blended_way(book, k, blend, starts, ways):
    """The way of what the blend makes of k settings while one after another goes its way."""
    book, rows = tupled(book), list(tupled(starts))
    if not is_keeping(book, k, blend):
        raise Unfit()
    made, told = made_of(book, blend, rows), []
    for at, way in enumerate(ways):
        for place, value in way:
            rows[at] = moved(rows[at], place, value)
            now = blend_at(book, k, blend, [row[place] for row in rows])
            if now != made[place]:
                made = moved(made, place, now)
                told.append((place, now))
    return tuple(told)


def are_rows(rows, row, column, value):
    """Whether the row with this value in the column instead is one of rows, too."""
    return row[:column] + (value,) + row[column + 1:] in rows


def gives_way_in(kinds, one, other):
    """Whether in all kinds the value one gives way to other."""
    for _, rows in kinds:
        for row in rows:
            for column, value in enumerate(row):
                if value == one and not are_rows(rows, row, column, other):
                    return False
    return True


def gives_way(book, one, other):
    """Whether the value one gives way to other."""
    book = tupled(book)
    check_values(book, (one, other))
    return one != other and gives_way_in(single_kinds(book)[2], one, other)


def kinds_within(kinds, left):
    """The kinds, with just the rows that have none but the values left."""
    return [(width, [row for row in rows if all([value in left for value in row])]) for width, rows in kinds]


def going_from(kinds, left):
    """The list of those of the values left that give way to another one, if the rows are of the values left."""
    kinds = kinds_within(kinds, left)
    return [one for one in left if any([one != other and gives_way_in(kinds, one, other) for other in left])]


def rests(book):
    """The ascending list of all rests of the book."""
    book = tupled(book)
    kinds, found = single_kinds(book)[2], []
    waiting, taken = [tuple(range(book[0]))], {}
    while waiting:
        left = waiting.pop()
        if left in taken:
            continue
        taken[left] = True
        going = going_from(kinds, left)
        if not going:
            found.append(left)
        waiting.extend([tuple([value for value in left if value != one]) for one in going])
    return sorted(found)


def goes_over(kinds, lot, pair):
    """Whether the pair goes over to another one of the lot."""
    aims = [other for other in lot if other != pair]
    for _, rows in kinds:
        for one in rows:
            for other in rows:
                both = list(zip(one, other))
                if pair not in both or not all([part in lot for part in both]):
                    continue
                for column, part in enumerate(both):
                    if part == pair:
                        aims = [aim for aim in aims if are_rows(rows, one, column, aim[0])
                                and are_rows(rows, other, column, aim[1])]
                if not aims:
                    return False
    return bool(aims)


def pair_going(kinds, lot):
    """An unlike pair of the lot that goes over to another one of it, None if there is none."""
    for pair in lot:
        if pair[0] != pair[1] and goes_over(kinds, lot, pair):
            return pair
    return None


def pairs_left(book):
    """How many unlike pairs of values are left."""
    book = tupled(book)
    # of each rest as many are left, in whatever order pairs go
    rest = rests(book)[0]
    kinds, lot = kinds_within(single_kinds(book)[2], rest), choices(rest, 2)
    going = pair_going(kinds, lot)
    while going is not None:
        lot = [pair for pair in lot if pair != going]
        going = pair_going(kinds, lot)
    return len([pair for pair in lot if pair[0] != pair[1]])


def leads_always(book):
    """Whether in each puzzle of the book each setting leads to each other one."""
    return pairs_left(book) == 0
