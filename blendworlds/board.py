"""A board: a book, a puzzle of it, and what a player has set, changed by deeds that can be taken back."""

from blendworlds.books import with_kind, without_kind
from blendworlds.checks import as_set, check_places, check_values, tupled
from blendworlds.errors import CanNot, NothingDone, Unfit
from blendworlds.hits import fewest_of
from blendworlds.making import places_missed, sure_clues, with_clues
from blendworlds.puzzles import broken_ties, is_setting, with_place, with_shown, with_tie, with_told
from blendworlds.puzzles import without_tie, without_told
from blendworlds.search import counted_settings, found_settings
from blendworlds.strikes import left_at


def is_there(pairs, place):
    """Whether one of the pairs is of the place."""
    return place in [spot for spot, _ in pairs]


def without_place(pairs, place):
    """The pairs, those of the place left out."""
    return tuple([pair for pair in pairs if pair[0] != place])


def ties_without_kind(ties, number):
    """The ties, none of which is of the kind of this number, when this kind goes."""
    return tuple([(kind - 1, spots) if kind > number else (kind, spots) for kind, spots in ties])


def agreeing(state):
    """The ascending list of the settings that agree with a state, a triple of a book, a puzzle, and what is set."""
    book, puzzle, pairs = state
    return found_settings(book, with_clues(puzzle, pairs))


def values_of(rows, place):
    """The set of the values that rows have at the place."""
    return as_set([row[place] for row in rows])


class Board:
    """A book, a puzzle of it, and what is set, as they are so far."""

    def __init__(self, book, places):
        self.now = (tupled(book), (places, (), (), ()), ())
        self.past = []

    def __eq__(self, other):
        return isinstance(other, Board) and self.now == other.now

    def __len__(self):
        return len(self.past)

    def come_to(self, book, puzzle, pairs):
        """A deed is done that leads to this."""
        self.past.append(self.now)
        self.now = (book, puzzle, pairs)

    def come_to_puzzle(self, puzzle):
        """A deed is done that leads to this puzzle, all else as it is."""
        book, _, pairs = self.now
        self.come_to(book, puzzle, pairs)

    def tie(self, number, spots):
        """This tie is there."""
        book, puzzle, _ = self.now
        self.come_to_puzzle(with_tie(book, puzzle, number, spots))

    def untie(self, tie):
        """This tie goes."""
        _, puzzle, _ = self.now
        self.come_to_puzzle(without_tie(puzzle, tie))

    def tell(self, place, value):
        """The place is told this value."""
        book, puzzle, pairs = self.now
        told = with_told(book, puzzle, place, value)
        if is_there(pairs, place):
            raise Unfit()
        self.come_to_puzzle(told)

    def untell(self, place):
        """The place is told no more."""
        _, puzzle, _ = self.now
        self.come_to_puzzle(without_told(puzzle, place))

    def show(self, spots):
        """These places are shown instead."""
        _, puzzle, _ = self.now
        self.come_to_puzzle(with_shown(puzzle, spots))

    def more(self):
        """One place more comes, behind all."""
        _, puzzle, _ = self.now
        self.come_to_puzzle(with_place(puzzle))

    def put(self, place, value):
        """The place is set to this value."""
        book, puzzle, pairs = self.now
        check_places(puzzle, (place,))
        check_values(book, (value,))
        if is_there(puzzle[2], place):
            raise Unfit()
        self.come_to(book, puzzle, as_set(without_place(pairs, place) + ((place, value),)))

    def clear(self, place):
        """The place is set no more."""
        book, puzzle, pairs = self.now
        check_places(puzzle, (place,))
        if not is_there(pairs, place):
            raise CanNot()
        self.come_to(book, puzzle, without_place(pairs, place))

    def kind(self, kind):
        """The kind comes as the last one."""
        book, puzzle, pairs = self.now
        self.come_to(with_kind(book, kind), puzzle, pairs)

    def unkind(self, number):
        """The kind of this number goes."""
        book, (places, ties, told, shown), pairs = self.now
        fewer = without_kind(book, number)
        if is_there(ties, number):
            raise Unfit()
        self.come_to(fewer, (places, ties_without_kind(ties, number), told, shown), pairs)

    def undo(self):
        """The last deed that is not taken back is taken back."""
        if not self.past:
            raise NothingDone()
        self.now = self.past.pop()

    def twin(self):
        """An equal board with the same deeds to be taken back."""
        book, puzzle, _ = self.now
        other = Board(book, puzzle[0])
        other.now = self.now
        other.past = list(self.past)
        return other

    def book(self):
        """The book."""
        return self.now[0]

    def puzzle(self):
        """The puzzle."""
        return self.now[1]

    def sets(self):
        """The set of the pairs of a place and the value to which it is set."""
        return self.now[2]

    def known(self):
        """The puzzle told what is set, too, whether the book is telling or not."""
        _, puzzle, pairs = self.now
        return with_clues(puzzle, pairs)

    def are_open(self, clues):
        """The set of those of the clues whose places are neither told nor set."""
        known = dict(self.known()[2])
        return tuple([clue for clue in clues if clue[0] not in known])

    def count(self):
        """How many settings agree."""
        return counted_settings(self.now[0], self.known())

    def is_done(self):
        """Whether each place is told or set, and so it is a setting."""
        values = tuple([value for _, value in self.known()[2]])
        return is_setting(self.now[0], self.known(), values)

    def broken(self):
        """The set of the ties all of whose spots are told or set, and which are not kept so."""
        known = dict(self.known()[2])
        places, ties, _, _ = self.now[1]
        ties = tuple([tie for tie in ties if all([spot in known for spot in tie[1]])])
        # what stands at places that are neither told nor set does not matter to these ties
        return broken_ties(self.now[0], (places, ties, (), ()), [known.get(place, 0) for place in range(places)])

    def sure(self):
        """The set of the pairs, of places neither told nor set, that all settings that agree have."""
        rows = agreeing(self.now)
        if not rows:
            raise CanNot()
        return self.are_open(sure_clues(rows))

    def seen(self):
        """The set of the pairs, of places neither told nor set, that striking leaves alone."""
        left = left_at(self.now[0], self.known())
        return self.are_open([(place, values[0]) for place, values in enumerate(left) if len(values) == 1])

    def hints(self):
        """The set of the pairs that sure tells and seen does not."""
        seen = self.seen()
        return tuple([clue for clue in self.sure() if clue not in seen])

    def wrong(self):
        """The least of the smallest sets of set places such that, these set no more, some setting agrees."""
        book, (places, ties, told, _), pairs = self.now
        rows = found_settings(book, (places, ties, told, ()))
        if not rows:
            raise CanNot()
        return fewest_of([places_missed((places, ties, pairs, ()), row) for row in rows])

    def changed(self):
        """The set of the places that have other values in settings that agree than ahead of the last deed."""
        if not self.past:
            return ()
        before = self.past[-1]
        rows, others = agreeing(before), agreeing(self.now)
        places = list(range(before[1][0]))
        return tuple([place for place in places if values_of(rows, place) != values_of(others, place)])
