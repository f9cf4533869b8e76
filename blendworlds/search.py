"""The settings of a puzzle, found from what is left at its places.

A left is here a list of tuples of values, one for each place: a setting may have just these there.
"""


def first_values(book, puzzle):
    """The left at first: the told value where one is told, all values elsewhere."""
    told = dict(puzzle[2])
    return [(told[place],) if place in told else tuple(range(book[0])) for place in range(puzzle[0])]


def net_of(book, puzzle):
    """The net of the ties of the puzzle; what is told is no part of it."""
    return Net(puzzle[0], gathered(book[2], puzzle[1]))


def left_with(left, place, values):
    """The left with these values at the place instead."""
    return left[:place] + [values] + left[place + 1:]


def found_setting(book, puzzle):
    """A setting of the puzzle; None if there is none."""
    return net_of(book, puzzle).some(first_values(book, puzzle))


def found_settings(book, puzzle):
    """The ascending list of all settings of the puzzle."""
    return net_of(book, puzzle).all_rows(first_values(book, puzzle))


def counted_settings(book, puzzle):
    """How many settings the puzzle has."""
    return net_of(book, puzzle).how_many(first_values(book, puzzle))


def setting_with(book, puzzle, pairs):
    """A setting of the puzzle that has, at the place of each pair, its value; None if there is none."""
    return net_of(book, puzzle).some(left_told(first_values(book, puzzle), pairs))


def left_told(left, pairs):
    """The left with just the value at the place of each pair, if it is left there."""
    left = list(left)
    for place, value in pairs:
        left[place] = tuple([kept for kept in left[place] if kept == value])
    return left


def parts_at(places, groups):
    """The ascending list of the tuples of places that hang together by groups, tuples of places."""
    marks, parts = list(range(places)), {}
    for group in groups:
        joined = [marks[place] for place in group]
        least = min(joined)
        if max(joined) > least:
            marks = [least if mark in joined else mark for mark in marks]
    # the mark of a part is its least place, so that parts come in their order
    for place, mark in enumerate(marks):
        parts.setdefault(mark, []).append(place)
    return [tuple(part) for part in list(parts.values())]


def rows_within(rows, sets):
    """The rows of one to three columns that have in each column a value of its set."""
    if len(sets) == 1:
        return [row for row in rows if row[0] in sets[0]]
    if len(sets) == 2:
        first, second = sets
        return [row for row in rows if row[0] in first and row[1] in second]
    first, second, third = sets
    return [row for row in rows if row[0] in first and row[1] in second and row[2] in third]


def shape_of(places, spots):
    """For each of the spots its number among the places."""
    return tuple([places.index(spot) for spot in spots])


def shaped_rows(shape, rows):
    """What those of rows that have like values at like numbers of the shape have for each of its numbers, ascending."""
    first = [shape.index(number) for number in shape]
    if len(set(shape)) < len(shape):
        rows = [row for row in rows if all([row[at] == value for at, value in zip(first, row)])]
    columns = [shape.index(number) for number in range(max(shape) + 1)]
    return [tuple([row[column] for column in columns]) for row in rows]


def spread(spots, rows):
    """The places of a tie, ascending, and what rows have there, if they have like values at like spots."""
    places = tuple(sorted(set(spots)))
    return places, shaped_rows(shape_of(places, spots), rows)


def gathered(kinds, ties):
    """A dict of the rows that all ties at the same places have in common, by these places, ascending."""
    needs, shaped = {}, {}
    for number, spots in ties:
        places, rows = tuple(sorted(set(spots))), kinds[number][1]
        if places != spots:
            shape = shape_of(places, spots)
            # puzzles made of books have many ties of one kind and one shape
            if (number, shape) not in shaped:
                shaped[(number, shape)] = shaped_rows(shape, rows)
            rows = shaped[(number, shape)]
        if places in needs:
            rows = [row for row in rows if row in needs[places]]
        needs[places] = rows
    return needs


def lengthened(ways, values):
    """Each tuple with each of the values behind it, as often as the tuple itself."""
    return {row + (value,): ways[row] for row in ways for value in values}


def keeping(ways, columns, rows):
    """Those of the tuples that have one of rows in these columns."""
    return {row: ways[row] for row in ways if tuple([row[column] for column in columns]) in rows}


def shortened(ways, columns):
    """The tuples with these columns alone, alike ones taken together."""
    found = {}
    for row in ways:
        short = tuple([row[column] for column in columns])
        found[short] = found.get(short, 0) + ways[row]
    return found


def kept_rows(found, spots, rows):
    """Those of the tuples found, which may be longer than all spots, that have one of rows at these spots."""
    if len(spots) == 2:
        first, second = spots
        return [row for row in found if (row[first], row[second]) in rows]
    first, second, third = spots
    return [row for row in found if (row[first], row[second], row[third]) in rows]


def woven(lists, places, spots):
    """The ascending list of the tuples at spots of one row of each list, behind one another; places are theirs."""
    if [] in lists:
        return []
    found = [()]
    for rows in lists:
        found = [one + row for one in found for row in rows]
    columns = [places.index(spot) for spot in spots]
    return sorted([tuple([one[column] for column in columns]) for one in found])


class Net:
    """The needs over so many places: the rows that may stand at some of them, by these places, ascending."""

    def __init__(self, places, needs):
        self.places = places
        self.needs = needs
        self.parts = parts_at(places, list(self.needs))
        self.near = [[] for _ in range(places)]
        self.last = list(range(places))
        for spots in self.needs:
            for place in spots:
                self.near[place].append(spots)
                self.last[place] = max(self.last[place], spots[-1])

    def narrowed(self, left, begin):
        """What is left when values go that no row of a need has, these needs first; None if nothing is somewhere."""
        if () in left:
            return None
        left, waiting = list(left), list(begin)
        while waiting:
            spots = waiting.pop()
            rows = rows_within(self.needs[spots], [left[place] for place in spots])
            if not rows:
                return None
            for column, place in enumerate(spots):
                # one value alone is had by all of the rows
                if len(left[place]) > 1:
                    had = [row[column] for row in rows]
                    kept = tuple([value for value in left[place] if value in had])
                    if kept != left[place]:
                        left[place] = kept
                        fresh = [near for near in self.near[place] if near not in waiting]
                        waiting.extend(fresh)
        return left

    def branches(self, left, place):
        """What is left with each one of the values at the place, the last value first, if anything is."""
        found = []
        for value in reversed(left[place]):
            tried = self.narrowed(left_with(left, place, (value,)), self.near[place])
            if tried is not None:
                found.append(tried)
        return found

    def settled(self, left, part):
        """What is left with one value at each place of the part, such that all is kept there; None if nothing is."""
        waiting = [left]
        while waiting:
            left = waiting.pop()
            # where the fewest values are left, wrong ones are found out soonest
            _, place = min([(len(left[at]), at) for at in part if len(left[at]) > 1], default=(0, None))
            if place is None:
                return left
            waiting.extend(self.branches(left, place))
        return None

    def some(self, left):
        """A setting of what is left, None if there is none."""
        left = self.narrowed(left, list(self.needs))
        for part in self.parts:
            if left is None:
                return None
            left = self.settled(left, part)
        return None if left is None else tuple([values[0] for values in left])

    def ways(self, left, part, spots):
        """For each tuple of values at those spots that are in the part: how many settings of the part have it."""
        ways, held = {(): 1}, []
        for place in part:
            ways, held = lengthened(ways, left[place]), held + [place]
            for need in self.near[place]:
                if need[-1] == place:
                    ways = keeping(ways, [held.index(at) for at in need], self.needs[need])
            # what no need behind asks for is dropped, so that alike tuples are gone through once
            kept = [at for at in held if at in spots or self.last[at] > place]
            if kept != held:
                ways, held = shortened(ways, [held.index(at) for at in kept]), kept
        return ways

    def how_many(self, left):
        """How many settings there are of what is left."""
        left = self.narrowed(left, list(self.needs))
        if left is None:
            return 0
        total = 1
        for part in self.parts:
            total = total * self.ways(left, part, ()).get((), 0)
        return total

    def rows(self, left):
        """The ascending list of the settings of what is left, by the places one behind another."""
        left = self.narrowed(left, list(self.needs))
        found = [()] if left is not None else []
        for place in range(self.places if found else 0):
            values = left[place]
            found = [row + (value,) for row in found for value in values]
            for spots in self.near[place]:
                # what a need of one place asks for is left alone by now
                if spots[-1] == place and len(spots) > 1:
                    found = kept_rows(found, spots, self.needs[spots])
        return found

    def all_rows(self, left):
        """The ascending list of the settings of what is left."""
        # of many places each part is better gone through by itself
        return self.rows(left) if self.places <= 7 else self.rows_at(left, tuple(range(self.places)))

    def rows_at(self, left, spots):
        """The ascending list of the tuples that settings of what is left have at these spots."""
        left = self.narrowed(left, list(self.needs))
        if left is None:
            return []
        lists = [list(self.ways(left, part, spots)) for part in self.parts]
        return woven(lists, [place for part in self.parts for place in part if place in spots], spots)

    def numbered(self, left, number):
        """The setting of what is left that has this number among them, ascending; None if there is none."""
        if not 0 <= number < self.how_many(left):
            return None
        left = list(left)
        for place in range(self.places):
            for value in left[place]:
                tried = left_with(left, place, (value,))
                passed = self.how_many(tried)
                if number < passed:
                    break
                number -= passed
            left = tried
        return tuple([values[0] for values in left])

    def first_rows(self, left, number):
        """The ascending list of so many of the first settings of what is left."""
        found, waiting = [], [left]
        while waiting and len(found) < number:
            left = waiting.pop()
            if self.some(left) is None:
                continue
            place = min([at for at in range(self.places) if len(left[at]) > 1], default=None)
            if place is None:
                found.append(tuple([values[0] for values in left]))
            else:
                waiting.extend([left_with(left, place, (value,)) for value in reversed(left[place])])
        return found
