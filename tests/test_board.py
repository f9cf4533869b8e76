"""[18]: a board, its deeds, what it tells at each state, and taking deeds back."""

import copy
import itertools
import random
import unittest

from blendworlds.board import Board
from blendworlds.errors import CanNot, NoKind, NoPlace, NothingDone, NoValue, Unfit
from blendworlds.puzzles import is_puzzle
from tests.helper import UNLIKE, all_settings, check_examples, check_raises, half_listed, listed
from tests.plain import all_tuples, left_by_plain_strikes
from tests.test_things import HUGE

EXAMPLES = """
    >>> board, unlike = Board((2, True, ((2, ((0, 1), (1, 0))),)), 3), (0, 1)
    >>> board.tie(0, unlike), board.tie(0, (1, 2)), board.count(), board.put(0, 1), board.sure(), board.seen(), board.hints(), board.changed(), board.count()
    (None, None, 2, None, ((1, 0), (2, 1)), ((1, 0), (2, 1)), (), (0, 1, 2), 1)
    >>> board.put(2, 0), board.wrong(), board.broken(), board.count(), board.put(1, 0), board.broken(), board.is_done(), board.wrong()
    (None, (0,), (), 0, None, ((0, (1, 2)),), False, (2,))
    >>> board.clear(2), board.tell(2, 1), board.is_done(), board.sets(), board.puzzle(), len(board)
    (None, None, True, ((0, 1), (1, 0)), (3, ((0, (0, 1)), (0, (1, 2))), ((2, 1),), ()), 7)
    >>> board.kind((3, ((0, 0, 1), (0, 1, 0), (1, 0, 0)))), board.tie(1, (0, 1, 2)), board.count(), board.undo(), board.count(), board.changed(), board.more(), board.count(), board.changed()
    (None, None, 0, None, 1, (), None, 2, ())
    >>> mate = board.twin()
    >>> mate == board, mate.tie(1, (3, 3, 2)), mate.sure(), mate.undo(), mate.unkind(1), mate.book()[2], mate == board
    (True, None, ((3, 0),), None, None, ((2, ((0, 1), (1, 0))),), False)
    >>> board.put(2, 0)
    raises Unfit()
    >>> board.unkind(0)
    raises Unfit()
"""
ERRORS = (NoKind, NoPlace, NothingDone, NoValue, CanNot, Unfit)
UNALIKE, BELOW, BARS = (2, ((0, 1), (1, 0))), (2, ((0, 0), (0, 1), (1, 1))), (3, ((0, 0, 1), (0, 1, 0), (1, 0, 0)))
BOOK, QUIET, ALONE = (2, True, (UNALIKE, BELOW)), (3, False, UNLIKE[2]), (1, True, ((2, ((0, 0),)), (1, ())))
BOOKS = [BOOK, QUIET, ALONE, (2, False, (BELOW, BARS)), UNLIKE, (2, True, ()), (2, False, ((1, ()),)), (3, True, UNLIKE[2] + ((1, ((0,), (2,))),))]
THREE = (2, True, ((2, ((0, 0), (0, 1), (1, 0))), (2, ((0, 1), (1, 0), (1, 1)))))
# a value that is sure at the place 2, though no strike sees it
HARD = (("tie", (0, (0, 1))), ("tie", (1, (0, 1))), ("tie", (1, (0, 2))), ("tie", (1, (1, 2))))


class Plain:
    """A board by the words of the document: what is there, and all that was there ahead of it."""

    def __init__(self, book, places):
        self.state = (book, (places, (), (), ()), ())
        self.past = []

    def deed(self, word, *given):
        """Does the deed; tells the error that refuses it, None if none does."""
        found = getattr(self, word)(*given)
        if isinstance(found, Exception):
            return found
        if word == "undo":
            self.state = self.past.pop()
        else:
            self.past.append(self.state)
            self.state = found
        return None

    def place_error(self, *places):
        wrong = [place for place in places if not 0 <= place < self.state[1][0]]
        return NoPlace(wrong[0]) if wrong else None

    def tie(self, number, spots):
        book, (places, ties, told, shown), sets = self.state
        if not 0 <= number < len(book[2]):
            return NoKind(number)
        if self.place_error(*spots):
            return self.place_error(*spots)
        if len(spots) != book[2][number][0]:
            return Unfit()
        return book, (places, tuple(sorted({*ties, (number, spots)})), told, shown), sets

    def untie(self, tie):
        book, (places, ties, told, shown), sets = self.state
        return (book, (places, tuple(part for part in ties if part != tie), told, shown), sets) if tie in ties else Unfit()

    def value_error(self, place, value):
        return self.place_error(place) or (None if 0 <= value < self.state[0][0] else NoValue(value))

    def tell(self, place, value):
        book, (places, ties, told, shown), sets = self.state
        if self.value_error(place, value):
            return self.value_error(place, value)
        if not book[1] or place in dict(sets):
            return Unfit()
        return book, (places, ties, tuple(sorted({**dict(told), place: value}.items())), shown), sets

    def untell(self, place):
        book, (places, ties, told, shown), sets = self.state
        if self.place_error(place):
            return self.place_error(place)
        rest = tuple(pair for pair in told if pair[0] != place)
        return (book, (places, ties, rest, shown), sets) if rest != told else Unfit()

    def show(self, spots):
        book, puzzle, sets = self.state
        return self.place_error(*spots) or (book, puzzle[:3] + (spots,), sets)

    def more(self):
        book, puzzle, sets = self.state
        return book, (puzzle[0] + 1,) + puzzle[1:], sets

    def put(self, place, value):
        book, puzzle, sets = self.state
        if self.value_error(place, value):
            return self.value_error(place, value)
        return Unfit() if place in dict(puzzle[2]) else (book, puzzle, tuple(sorted({**dict(sets), place: value}.items())))

    def clear(self, place):
        book, puzzle, sets = self.state
        if self.place_error(place):
            return self.place_error(place)
        rest = tuple(pair for pair in sets if pair[0] != place)
        return (book, puzzle, rest) if rest != sets else CanNot()

    def kind(self, kind):
        book, puzzle, sets = self.state
        return book[:2] + (book[2] + (kind,),), puzzle, sets

    def unkind(self, number):
        book, (places, ties, told, shown), sets = self.state
        if not 0 <= number < len(book[2]):
            return NoKind(number)
        if number in [kind for kind, _ in ties]:
            return Unfit()
        ties = tuple((kind - (kind > number), spots) for kind, spots in ties)
        return book[:2] + (book[2][:number] + book[2][number + 1:],), (places, ties, told, shown), sets

    def undo(self):
        return None if self.past else NothingDone()


def agreeing(state):
    book, puzzle, sets = state
    return [row for row in all_settings(book, puzzle) if all(row[place] == value for place, value in sets)]


def check_told(case, board, plain):
    """Checks all that the board tells against the settings gone through."""
    book, puzzle, sets = plain.state
    rows, known = agreeing(plain.state), {**dict(puzzle[2]), **dict(sets)}
    free = [place for place in range(puzzle[0]) if place not in known]
    case.assertEqual((board.book(), board.puzzle(), board.sets(), len(board)), plain.state + (len(plain.past),))
    case.assertIs(is_puzzle(book, puzzle), True)
    case.assertEqual(board.count(), len(rows))
    case.assertIs(board.is_done(), not free and bool(rows))
    broken = tuple((number, spots) for number, spots in puzzle[1] if all(spot in known for spot in spots)
                   and tuple(known[spot] for spot in spots) not in book[2][number][1])
    case.assertEqual(board.broken(), broken)
    left = left_by_plain_strikes(book, puzzle[:2] + (tuple(known.items()), ()))
    seen = tuple((place, left[place][0]) for place in free if len(left[place]) == 1)
    case.assertEqual(board.seen(), seen)
    if rows:
        sure = tuple((place, rows[0][place]) for place in free if len({row[place] for row in rows}) == 1)
        case.assertEqual((board.sure(), board.hints()), (sure, tuple(clue for clue in sure if clue not in seen)))
        case.assertLessEqual(set(seen), set(sure))
    else:
        check_raises(case, "CanNot()", board.sure)
        check_raises(case, "CanNot()", board.hints)
    check_wrong(case, board, book, puzzle, sets)
    changed = ()
    if plain.past:
        before = agreeing(plain.past[-1])
        changed = tuple(place for place in range(plain.past[-1][1][0]) if {row[place] for row in before} != {row[place] for row in rows})
    case.assertEqual(board.changed(), changed)
    return (bool(broken), len(rows), bool(rows) and bool(set(sure) - set(seen)), len(changed), bool(rows) and not free)


def check_wrong(case, board, book, puzzle, sets):
    rows = all_settings(book, puzzle)
    if not rows:
        check_raises(case, "CanNot()", board.wrong)
        return
    places = [place for place, _ in sets]
    for spots in (chosen for many in range(len(places) + 1) for chosen in itertools.combinations(places, many)):
        if any(all(row[place] == value for place, value in sets if place not in spots) for row in rows):
            case.assertEqual(board.wrong(), spots)
            return


def a_deed(dice, state):
    """A deed, one that is refused at times, within the bounds of boards."""
    book, puzzle, sets = state
    places, number = puzzle[0], dice.choice([-1, len(book[2]), *range(len(book[2]))] + list(range(len(book[2]))) * 3)
    spots = [place for place in range(places)] * 6 + [-1, places, HUGE]
    place, value = dice.choice(spots), dice.choice(list(range(book[0])) * 8 + [-1, book[0]])
    width = book[2][number][0] if 0 <= number < len(book[2]) and dice.random() < 0.9 else dice.randint(0, 4)
    tie = (number, tuple(dice.choice(spots) for _ in range(width)))
    words = ["tie"] * 4 + ["untie"] * 2 + ["tell"] * 2 + ["untell", "show", "clear", "unkind", "kind", "undo", "undo"] + ["put"] * 5 + ["more"]
    word = dice.choice(words)
    if word == "more" and places >= 5 or word == "kind" and len(book[2]) >= 4 or word == "tie" and len(puzzle[1]) >= 10:
        word = "put"
    if word == "untie" and puzzle[1] and dice.random() < 0.8:
        tie = dice.choice(puzzle[1])
    if word in ("clear", "untell") and dice.random() < 0.7 and (sets if word == "clear" else puzzle[2]):
        place = dice.choice(sets if word == "clear" else puzzle[2])[0]
    rows = all_tuples(book[0], 2)
    given = {"tie": tie, "untie": (tie,), "tell": (place, value), "untell": (place,), "put": (place, value), "clear": (place,),
             "show": (tuple(dice.choice(spots) for _ in range(dice.randint(0, 3))),), "unkind": (number,), "more": (), "undo": (),
             "kind": ((2, tuple(sorted(dice.sample(rows, dice.randint(0, len(rows)))))),)}
    return word, given[word]


def check_deed(case, board, plain, word, given):
    """Does one deed on both, and checks that they tell the same of it."""
    before = board.twin()
    error = plain.deed(word, *given)
    if error is None:
        case.assertIsNone(getattr(board, word)(*given))
        return 0
    with case.assertRaises(type(error)) as caught:
        getattr(board, word)(*given)
    case.assertIs(type(caught.exception), type(error))
    case.assertEqual(vars(caught.exception), vars(error))
    case.assertTrue(board == before and len(board) == len(before))
    return 1


class ExamplesTest(unittest.TestCase):
    def test_examples(self):
        self.assertEqual(check_examples(self, EXAMPLES, {"Board": Board}), 7)


class DeedsTest(unittest.TestCase):
    def test_long_rows_of_deeds(self):
        dice, seen, refused = random.Random(181), [], {}
        for turn in range(80):
            book, places = BOOKS[turn % len(BOOKS)], dice.randint(1, 4)
            board, plain = Board(book, places), Plain(book, places)
            seen.append(check_told(self, board, plain))
            if turn % 10 == 0:
                board, plain = Board(THREE, 3), Plain(THREE, 3)
                for word, given in HARD:
                    check_deed(self, board, plain, word, given)
            for _ in range(36):
                word, given = a_deed(dice, plain.state)
                no = check_deed(self, board, plain, word, given)
                refused[word, no] = refused.get((word, no), 0) + 1
                seen.append(check_told(self, board, plain))
            self.check_taken_back(board, plain)
        for at in range(5):
            self.assertGreater(len([1 for told in seen if told[at]]), 20, at)
        self.assertGreater(len([1 for told in seen if told[1] == 0]), 20)
        for word in ("tie", "untie", "tell", "untell", "show", "put", "clear", "unkind", "undo"):
            self.assertGreater(min(refused[word, 0], refused[word, 1]), 4, word)

    def check_taken_back(self, board, plain):
        """Undo down to nothing, each state being there again; a twin at each state goes its own way."""
        while plain.past:
            mate = board.twin()
            self.assertTrue(mate == board and not mate != board and len(mate) == len(board))
            self.assertIsNone(board.undo())
            plain.deed("undo")
            self.assertEqual((board.book(), board.puzzle(), board.sets(), len(board)), plain.state + (len(plain.past),))
            mate.more()
            self.assertNotEqual(mate, board)
            self.assertEqual(len(mate), len(board) + 2)
            mate.undo()
            mate.undo()
            self.assertTrue(mate == board and len(mate) == len(board))
        check_raises(self, "NothingDone()", board.undo)
        check_raises(self, "NothingDone()", board.twin().undo)
        check_told(self, board, plain)

    def test_deeds_that_change_nothing(self):
        board = Board(BOOK, 2)
        for done in (lambda: board.tie(0, (0, 1)), lambda: board.tell(0, 1), lambda: board.show((1,)), lambda: board.put(1, 0)):
            self.assertIsNone(done())
            before = board.twin()
            self.assertIsNone(done())
            self.assertEqual(board, before)
            self.assertEqual((len(board), board.changed()), (len(before) + 1, ()))
        self.assertEqual(len(board), 8)

    def test_told_while_set(self):
        board = Board(BOOK, 2)
        board.put(0, 1)
        check_raises(self, "Unfit()", board.tell, 0, 1)
        check_raises(self, "Unfit()", board.tell, 0, 0)
        board.clear(0)
        board.tell(0, 1)
        board.tell(0, 0)
        self.assertEqual((board.puzzle()[2], len(board)), (((0, 0),), 4))
        check_raises(self, "Unfit()", board.put, 0, 0)
        check_raises(self, "CanNot()", board.clear, 0)
        check_raises(self, "Unfit()", board.untell, 1)
        quiet = Board(QUIET, 1)
        quiet.put(0, 2)
        check_raises(self, "Unfit()", quiet.tell, 0, 2)
        quiet.clear(0)
        check_raises(self, "Unfit()", quiet.tell, 0, 2)

    def test_kinds_that_go(self):
        board = Board((2, True, (UNALIKE, BELOW, BARS)), 3)
        board.tie(0, (0, 1))
        board.tie(2, (0, 1, 2))
        check_raises(self, "Unfit()", board.unkind, 2)
        check_raises(self, "Unfit()", board.unkind, 0)
        board.unkind(1)
        self.assertEqual((board.book()[2], board.puzzle()[1]), ((UNALIKE, BARS), ((0, (0, 1)), (1, (0, 1, 2)))))
        check_raises(self, "NoKind(number=2)", board.unkind, 2)
        board.untie((0, (0, 1)))
        board.unkind(0)
        self.assertEqual((board.book()[2], board.puzzle()[1]), ((BARS,), ((0, (0, 1, 2)),)))
        board.undo()
        self.assertEqual((board.book()[2], board.puzzle()[1]), ((UNALIKE, BARS), ((1, (0, 1, 2)),)))

    def test_hints_that_no_strike_sees(self):
        board = Board(THREE, 3)
        for _, (number, spots) in HARD:
            board.tie(number, spots)
        self.assertEqual((board.sure(), board.seen(), board.hints()), (((2, 1),), (), ((2, 1),)))
        board.put(2, 1)
        self.assertEqual((board.sure(), board.hints(), board.changed()), ((), (), ()))

    def test_seen_where_something_is_struck_empty(self):
        # striking leaves nothing at the places 0 and 1, but just one value at 3, whatever elsewhere
        board = Board((2, False, (UNALIKE, BELOW)), 4)
        for number, spots in ((0, (0, 1)), (1, (0, 1)), (1, (1, 0)), (0, (2, 3))):
            board.tie(number, spots)
        board.put(0, 1)
        board.put(2, 1)
        self.assertIn((), left_by_plain_strikes(board.book(), board.puzzle()[:2] + (board.sets(), ())))
        self.assertEqual((board.seen(), board.count()), (((3, 0),), 0))
        check_raises(self, "CanNot()", board.hints)
        check_raises(self, "CanNot()", board.wrong)


class RefusalsTest(unittest.TestCase):
    def test_two_errors_at_once(self):
        board = Board(BOOK, 3)
        board.tie(0, (0, 1))
        board.tell(2, 0)
        board.put(1, 1)
        before, many = board.twin(), len(board)
        for text, deed, given in (
                ("NoKind(number=2)", board.tie, (2, (9, 9, 9))), ("NoKind(number=-1)", board.tie, (-1, ())),
                ("NoPlace(number=3)", board.tie, (0, (0, 3, -1))), ("NoPlace(number=-2)", board.tie, (1, (-2,))), ("Unfit()", board.tie, (1, (2,))),
                ("Unfit()", board.tie, (1, ())), ("Unfit()", board.untie, ((7, (0, 9)),)), ("Unfit()", board.untie, ((0, (1, 0)),)),
                ("NoPlace(number=3)", board.tell, (3, 7)), ("NoValue(number=7)", board.tell, (1, 7)), ("Unfit()", board.tell, (1, 1)),
                ("NoPlace(number=-1)", board.untell, (-1,)), ("Unfit()", board.untell, (1,)), ("NoPlace(number=5)", board.show, ((0, 5, 4),)),
                ("NoPlace(number=3)", board.put, (3, 7)), ("NoValue(number=-1)", board.put, (2, -1)), ("Unfit()", board.put, (2, 0)),
                ("NoPlace(number=4)", board.clear, (4,)), ("CanNot()", board.clear, (2,)), ("CanNot()", board.clear, (0,)),
                ("NoKind(number=2)", board.unkind, (2,)), ("NoKind(number=-1)", board.unkind, (-1,)), ("Unfit()", board.unkind, (0,))):
            check_raises(self, text, deed, *given)
            self.assertTrue(board == before and len(board) == many)
        quiet = Board(QUIET, 1)
        check_raises(self, "NoPlace(number=1)", quiet.tell, 1, 9)
        check_raises(self, "NoValue(number=3)", quiet.tell, 0, 3)
        check_raises(self, "Unfit()", quiet.tell, 0, 0)

    def test_no_setting_agrees(self):
        board = Board(BOOK, 2)
        board.tie(0, (0, 0))
        for function in (board.sure, board.hints, board.wrong):
            check_raises(self, "CanNot()", function)
        self.assertEqual((board.count(), board.is_done(), board.broken()), (0, False, ()))
        board.put(0, 1)
        self.assertEqual((board.broken(), board.changed()), (((0, (0, 0)),), ()))


class BoardsTest(unittest.TestCase):
    def test_a_new_board(self):
        board = Board(ALONE, 1)
        self.assertEqual((board.book(), board.puzzle(), board.sets()), (ALONE, (1, (), (), ()), ()))
        self.assertEqual((len(board), board.count(), board.is_done(), board.broken(), board.changed(), board.wrong()), (0, 1, False, (), (), ()))
        # of one value there is nothing to be struck
        self.assertEqual((board.sure(), board.seen(), board.hints()), (((0, 0),), ((0, 0),), ()))

    def test_equal_boards(self):
        one, two = Board(BOOK, 2), Board(listed(BOOK), 2)
        self.assertTrue(one == two and not one != two)
        one.more()
        one.undo()
        two.show((0,))
        two.show(())
        self.assertTrue(one == two and len(one) != len(two))
        for other in (Board(BOOK, 3), Board(QUIET, 2), Board((2, False, BOOK[2]), 2), Board((2, True, BOOK[2][::-1]), 2)):
            self.assertTrue(one != other and not one == other)
        for deed in (lambda board: board.put(0, 0), lambda board: board.tell(0, 0), lambda board: board.show((1,)), lambda board: board.tie(0, (0, 1))):
            other = one.twin()
            deed(other)
            self.assertTrue(one != other and not one == other)
            self.assertEqual(len(one), 0)
        for other in (None, 0, (), BOOK, "board", [], (BOOK, (2, (), (), ()), ())):
            self.assertTrue(one != other and not one == other)

    def test_iteration(self):
        board = Board(BOOK, 2)
        for function in (iter, list, tuple, sorted, set):
            with self.assertRaises(TypeError):
                function(board)
        with self.assertRaises(TypeError):
            for _ in board:
                pass

    def test_arguments(self):
        for form in (lambda given: given, listed, half_listed):
            given = {"book": form(BOOK), "spots": form((0, 1)), "tie": form((0, (0, 1))), "kind": form(BARS), "shown": form((1, 1))}
            kept = copy.deepcopy(given)
            board = Board(book=given["book"], places=3)
            board.tie(number=0, spots=given["spots"])
            board.untie(tie=given["tie"])
            board.tie(0, given["spots"])
            board.tell(place=2, value=1)
            board.untell(place=2)
            board.show(spots=given["shown"])
            board.put(place=1, value=0)
            board.clear(place=1)
            board.kind(kind=given["kind"])
            board.unkind(number=1)
            self.assertEqual(given, kept)
            self.assertEqual((board.book(), board.puzzle(), board.sets()), ((2, True, (UNALIKE, BARS)), (3, ((0, (0, 1)),), (), (1, 1)), ()))
            self.assertEqual(len(board), 10)

    def test_given_lists_are_copied(self):
        book, spots = listed(BOOK), [0, 1]
        board = Board(book, 2)
        board.tie(0, spots)
        book[2].clear()
        spots.append(5)
        self.assertEqual((board.book(), board.puzzle()), (BOOK, (2, ((0, (0, 1)),), (), ())))

    def test_what_is_told_again(self):
        board = Board(BOOK, 3)
        board.tie(0, (0, 1))
        board.put(2, 1)
        for name in ("book", "puzzle", "sets", "count", "is_done", "broken", "sure", "seen", "hints", "wrong", "changed", "twin"):
            self.assertEqual(getattr(board, name)(), getattr(board, name)())
        self.assertEqual(len(board), 2)


if __name__ == "__main__":
    unittest.main()
