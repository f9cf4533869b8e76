"""[10]: strikes, what they leave, the puzzle of sets, and whether strikes decide."""

import itertools
import random
import unittest

from blendworlds import strikes
from blendworlds.blends import free_puzzle
from blendworlds.puzzles import is_puzzle, is_setting
from tests.helper import LINE, MIXED, SMALL, UNLIKE, all_settings, check_call, check_examples, check_judge, check_refusal, some_books, some_puzzles
from tests.plain import left_by_plain_strikes, plain_open, pool

EXAMPLES = """
    >>> climb, unlike = (2, True, ((2, ((0, 0), (0, 1), (1, 1))),)), (2, False, ((2, ((0, 1), (1, 0))),))
    >>> row = (3, ((0, (0, 1)), (0, (1, 2))), ((0, 1),), ())
    >>> open_strikes(climb, row, first_left(climb, row)), left_behind(climb, row, ((0, 1, 0),)), strikes_to(climb, row, 2, 0), fewest_strikes_to(climb, row, 2, 0), strikes_to(climb, row, 2, 1), strikes_to(climb, row, 0, 0), found_by_strikes(climb, row)
    (((0, 1, 0),), ((1,), (1,), (0, 1)), ((0, 1, 0), (1, 1, 0)), 2, None, (), (1, 1, 1))
    >>> sets_of(climb), sets_puzzle(unlike), strikes_decide(climb), strikes_decide(unlike), set_by_sets(climb, row, (0, 0, 1)), is_undecided(unlike, (3, ((0, (0, 1)), (0, (0, 2)), (0, (1, 2))), (), ()))
    (((0,), (0, 1), (1,)), (3, ((0, (0, 2)), (0, (1, 1)), (0, (2, 0))), (), ()), True, False, (1, 1, 1), True)
    >>> left_behind(climb, row, ((1, 1, 0),))
    raises Unfit()
"""
CLIMB, UNALIKE = (2, True, ((2, ((0, 0), (0, 1), (1, 1))),)), (2, False, ((2, ((0, 1), (1, 0))),))
ROW = (3, ((0, (0, 1)), (0, (1, 2))), ((0, 1),), ())
NOTHING = (0, (), (), ())
BARE, QUIET = (2, True, ()), (2, False, ())
ALONE = (1, True, ((1, ((0,),)), (2, ())))
TWICE = (2, False, ((2, ((0, 1), (1, 0))), (3, ((0, 0, 1), (0, 1, 0)))))
FOUR = (4, False, ((2, ((0, 2), (0, 3), (1, 2), (1, 3), (2, 0), (2, 1), (3, 0), (3, 1))), (2, ((0, 0), (0, 1), (2, 2), (3, 3)))))
PAIRS = [(CLIMB, ROW), (UNLIKE, LINE), (BARE, (3, (), ((1, 0),), ())), (CLIMB, NOTHING), (ALONE, (2, ((0, (1,)), (1, (0, 1))), (), ())),
         (TWICE, (2, ((0, (0, 0)), (1, (0, 0, 1))), (), ())), (UNALIKE, (1, ((0, (0, 0)),), (), ())),
         (CLIMB, free_puzzle(CLIMB, 3)), (MIXED, free_puzzle(MIXED, 2))] + some_puzzles(61, 220)
BOOKS = [CLIMB, UNALIKE, UNLIKE, SMALL, MIXED, BARE, QUIET, ALONE, TWICE, (1, False, ()), (2, False, ((1, ()),))] + some_books(62, 60)


def plain_first(book, puzzle):
    told = dict(puzzle[2])
    return [{told[place]} if place in told else set(range(book[0])) for place in range(puzzle[0])]


def plain_behind(book, puzzle, given):
    """The left behind the strikes, None if one is not open in its turn."""
    left = plain_first(book, puzzle)
    for strike in given:
        if strike not in plain_open(book, puzzle, left):
            return None
        left[puzzle[1][strike[0]][1][strike[1]]].discard(strike[2])
    return tuple(tuple(sorted(values)) for values in left)


def many_struck(book, puzzle):
    return sum(map(len, plain_first(book, puzzle))) - sum(map(len, left_by_plain_strikes(book, puzzle)))


def some_strikes(dice, book, puzzle):
    """A tuple of triples, strikes for the most part, some done at random."""
    found, left = [], plain_first(book, puzzle)
    for _ in range(dice.randint(0, 6)):
        ways = plain_open(book, puzzle, left)
        if not ways or dice.random() < 0.2:
            found.append((dice.randint(-1, 3), dice.randint(-1, 2), dice.randint(-1, 3)))
            break
        found.append(dice.choice(ways))
        left[puzzle[1][found[-1][0]][1][found[-1][1]]].discard(found[-1][2])
    return tuple(found)


class ExamplesTest(unittest.TestCase):
    def test_examples(self):
        names = {name: part for name, part in vars(strikes).items() if not name.startswith("_")}
        self.assertEqual(check_examples(self, EXAMPLES, names), 3)


class OpenTest(unittest.TestCase):
    def test_first_left(self):
        for book, puzzle in PAIRS:
            expected = tuple(tuple(sorted(values)) for values in plain_first(book, puzzle))
            self.assertEqual(strikes.first_left(book, puzzle), expected)
            self.assertIs(strikes.is_left(book, puzzle, expected), True)

    def test_open_strikes(self):
        dice = random.Random(7)
        for book, puzzle in PAIRS:
            for _ in range(4):
                left = tuple(tuple(value for value in range(book[0]) if dice.random() < 0.6) for _ in range(puzzle[0]))
                expected = plain_open(book, puzzle, left)
                self.assertEqual(strikes.open_strikes(book, puzzle, left), tuple(expected), (book, puzzle, left))
                for strike in expected[:5]:
                    self.assertIs(strikes.is_open(book, puzzle, left, strike), True)
                for _ in range(10):
                    strike = (dice.randint(-2, 4), dice.randint(-2, 3), dice.randint(-2, 3))
                    self.assertIs(strikes.is_open(book, puzzle, left, strike), strike in expected)

    def test_lefts_with_nothing_somewhere(self):
        self.assertEqual(strikes.open_strikes(CLIMB, ROW, ((), (0, 1), (1,))), ((0, 1, 0), (0, 1, 1)))
        self.assertEqual(strikes.open_strikes(CLIMB, ROW, ((1,), (), (0,))), ((0, 0, 1), (1, 1, 0)))
        self.assertEqual(strikes.open_strikes(CLIMB, ROW, ((), (), ())), ())
        self.assertIs(strikes.is_open(CLIMB, ROW, ((1,), (), (0,)), (0, 0, 1)), True)
        self.assertIs(strikes.is_open(CLIMB, ROW, ((1,), (), (0,)), (0, 1, 1)), False)

    def test_strikes_of_numbers_that_name_nothing(self):
        left = strikes.first_left(CLIMB, ROW)
        for strike in ((-1, 1, 0), (-2, 1, 0), (2, 1, 0), (0, -1, 0), (0, 2, 0), (0, 1, -1), (0, 1, 2), (10 ** 30, 1, 0),
                       (0, 10 ** 30, 0), (0, 1, -10 ** 30)):
            self.assertIs(strikes.is_open(CLIMB, ROW, left, strike), False)
        self.assertIs(strikes.is_open(CLIMB, ROW, left, (0, 1, 0)), True)

    def test_a_place_twice_is_looked_at_column_by_column(self):
        puzzle = (1, ((0, (0, 0)),), (), ())
        self.assertEqual(strikes.open_strikes(UNALIKE, puzzle, ((0, 1),)), ())
        self.assertEqual(strikes.open_strikes(UNALIKE, puzzle, ((0,),)), ((0, 0, 0), (0, 1, 0)))
        self.assertEqual(strikes.left_at(UNALIKE, puzzle), ((0, 1),))
        self.assertIs(strikes.is_struck_empty(UNALIKE, puzzle), False)
        self.assertIs(strikes.is_undecided(UNALIKE, puzzle), True)

    def test_both_columns_of_one_place(self):
        book = (2, False, ((2, ((0, 0),)),))
        puzzle = (1, ((0, (0, 0)),), (), ())
        self.assertEqual(strikes.open_strikes(book, puzzle, ((0, 1),)), ((0, 0, 1), (0, 1, 1)))
        self.assertEqual(strikes.left_behind(book, puzzle, ((0, 1, 1),)), ((0,),))
        self.assertIs(strikes.is_strikes(book, puzzle, ((0, 1, 1), (0, 0, 1))), False)
        self.assertEqual(len(strikes.all_strikes(book, puzzle)), 1)


class StrikesTest(unittest.TestCase):
    def test_is_strikes_and_left_behind(self):
        dice = random.Random(17)
        for book, puzzle in PAIRS:
            for _ in range(6):
                given = some_strikes(dice, book, puzzle)
                expected = plain_behind(book, puzzle, given)
                self.assertIs(strikes.is_strikes(book, puzzle, given), expected is not None)
                named = {"book": book, "puzzle": puzzle, "strikes": given}
                if expected is None:
                    check_refusal(self, "Unfit()", strikes.left_behind, named)
                else:
                    self.assertEqual(strikes.left_behind(**named), expected)

    def test_no_strikes(self):
        for book, puzzle in PAIRS[:20]:
            self.assertIs(strikes.is_strikes(book, puzzle, ()), True)
            self.assertEqual(strikes.left_behind(book, puzzle, ()), strikes.first_left(book, puzzle))

    def test_when_strikes_end(self):
        for book, puzzle in PAIRS:
            given = strikes.all_strikes(book, puzzle)
            left = left_by_plain_strikes(book, puzzle)
            self.assertEqual(plain_behind(book, puzzle, given), left, (book, puzzle))
            self.assertEqual(strikes.left_at(book, puzzle), left)
            self.assertEqual(strikes.open_strikes(book, puzzle, left), ())
            self.assertIs(strikes.is_struck_empty(book, puzzle), () in left)
            ones = all(len(values) == 1 for values in left)
            self.assertEqual(strikes.found_by_strikes(book, puzzle), tuple(values[0] for values in left) if ones else None)

    def test_settings_have_what_is_left(self):
        for book, puzzle in PAIRS[:7] + PAIRS[9:]:
            left = strikes.left_at(book, puzzle)
            settings = all_settings(book, puzzle)
            for row in settings:
                self.assertTrue(all(value in values for value, values in zip(row, left)))
            found = strikes.found_by_strikes(book, puzzle)
            if found is not None:
                self.assertEqual(settings, [found])

    def test_without_places(self):
        self.assertEqual(strikes.found_by_strikes(CLIMB, NOTHING), ())
        self.assertIs(strikes.is_struck_empty(CLIMB, NOTHING), False)
        self.assertEqual(strikes.all_strikes(CLIMB, NOTHING), ())


class StrikesToTest(unittest.TestCase):
    def each(self):
        for book, puzzle in PAIRS:
            for place in range(puzzle[0]):
                for value in range(book[0]):
                    yield book, puzzle, place, value

    def test_strikes_to(self):
        for book, puzzle, place, value in self.each():
            given = strikes.strikes_to(book, puzzle, place, value)
            if value in left_by_plain_strikes(book, puzzle)[place]:
                self.assertIsNone(given)
                self.assertIs(strikes.is_strikes_to(book, puzzle, place, value, strikes.all_strikes(book, puzzle)), False)
                continue
            self.assertNotIn(value, plain_behind(book, puzzle, given)[place])
            self.assertIs(strikes.is_strikes_to(book, puzzle, place, value, given), True)
            self.assertIs(strikes.is_strikes_to(book, puzzle, place, value, strikes.all_strikes(book, puzzle)), True)
            for many in range(len(given)):
                for fewer in itertools.combinations(given, many) if len(given) < 9 else ():
                    behind = plain_behind(book, puzzle, fewer)
                    self.assertTrue(behind is None or value in behind[place], (book, puzzle, place, value, fewer))
                    self.assertIs(strikes.is_strikes_to(book, puzzle, place, value, fewer), False)

    def test_fewest_strikes_to(self):
        for book, puzzle, place, value in self.each():
            if many_struck(book, puzzle) > 6:
                continue
            found = strikes.fewest_strikes_to(book, puzzle, place, value)
            self.assertEqual(found, self.fewest_by_all(book, puzzle, place, value), (book, puzzle, place, value))
            if found is not None:
                self.assertLessEqual(found, len(strikes.strikes_to(book, puzzle, place, value)))

    def fewest_by_all(self, book, puzzle, place, value):
        """By all sets of values that strikes, in whichever order, take away."""
        lefts = {tuple(map(frozenset, plain_first(book, puzzle)))}
        for many in range(8):
            if any(value not in left[place] for left in lefts):
                return many
            behind = set()
            for left in lefts:
                for tie, column, gone in plain_open(book, puzzle, left):
                    spot = puzzle[1][tie][1][column]
                    behind.add(left[:spot] + (left[spot] - {gone},) + left[spot + 1:])
            lefts = behind
        return None

    def test_fewest_is_less_than_none_needless(self):
        book = (2, True, ((2, ((0, 0), (0, 1), (1, 1))),))
        chain = (4, ((0, (0, 1)), (0, (0, 3)), (0, (1, 2)), (0, (2, 3))), ((0, 1),), ())
        self.assertEqual(strikes.fewest_strikes_to(book, chain, 3, 0), 1)
        self.assertEqual(strikes.fewest_strikes_to(book, chain, 2, 0), 2)
        self.assertIs(strikes.is_strikes_to(book, chain, 3, 0, ((0, 1, 0), (2, 1, 0), (3, 1, 0))), True)
        self.assertEqual(strikes.fewest_strikes_to(book, chain, 0, 0), 0)
        self.assertIsNone(strikes.fewest_strikes_to(book, chain, 0, 1))

    def test_told_values(self):
        self.assertEqual(strikes.strikes_to(UNLIKE, LINE, 0, 0), ())
        self.assertEqual(strikes.strikes_to(UNLIKE, LINE, 0, 1), ())
        self.assertIsNone(strikes.strikes_to(UNLIKE, LINE, 0, 2))
        self.assertEqual(strikes.strikes_to(UNLIKE, LINE, 1, 2), ((0, 1, 2),))
        self.assertIs(strikes.is_strikes_to(UNLIKE, LINE, 0, 0, ()), True)


class SetsTest(unittest.TestCase):
    def test_sets_of(self):
        for book in BOOKS:
            sets = {values for many in range(1, book[0] + 1) for values in itertools.combinations(range(book[0]), many)}
            self.assertEqual(strikes.sets_of(book), tuple(sorted(sets)))
        self.assertEqual(strikes.sets_of(UNLIKE), ((0,), (0, 1), (0, 1, 2), (0, 2), (1,), (1, 2), (2,)))
        self.assertEqual(len(strikes.sets_of(FOUR)), 15)

    def test_sets_puzzle(self):
        for book in BOOKS + [FOUR]:
            sets = strikes.sets_of(book)
            ties = []
            for number, (width, rows) in enumerate(book[2]):
                for spots in itertools.product(range(len(sets)), repeat=width):
                    kept = [row for row in rows if all(value in sets[spot] for value, spot in zip(row, spots))]
                    if all({row[column] for row in kept} == set(sets[spot]) for column, spot in enumerate(spots)):
                        ties.append((number, spots))
            told = tuple((sets.index((value,)), value) for value in range(book[0])) if book[1] else ()
            self.assertEqual(strikes.sets_puzzle(book), (len(sets), tuple(ties), tuple(sorted(told)), ()))
            self.assertIs(is_puzzle(book, strikes.sets_puzzle(book)), True)

    def test_its_setting_decides(self):
        for book in BOOKS:
            puzzle = strikes.sets_puzzle(book)
            settings = all_settings(book, puzzle)
            self.assertIs(strikes.strikes_decide(book), bool(settings))
            if settings:
                self.assertIn(strikes.sets_setting(book), settings)
                self.assertIsNone(strikes.undecided_puzzle(book))
            else:
                self.assertIsNone(strikes.sets_setting(book))
                paper = strikes.undecided_puzzle(book)
                self.assertIs(is_puzzle(book, paper), True)
                self.assertNotIn((), left_by_plain_strikes(book, paper))
                self.assertEqual(all_settings(book, paper), [])
                self.assertIs(strikes.is_undecided(book, paper), True)

    def test_by_many_puzzles(self):
        for book, puzzles in pool():
            decide = strikes.strikes_decide(book)
            for puzzle, settings in puzzles[::3]:
                undecided = not settings and () not in left_by_plain_strikes(book, puzzle)
                self.assertFalse(undecided and decide, (book, puzzle))
                self.assertIs(strikes.is_undecided(book, puzzle), undecided)

    def test_set_by_sets(self):
        decided = 0
        for book, puzzle in PAIRS[:7] + PAIRS[9:]:
            chosen = strikes.sets_setting(book)
            if chosen is None:
                continue
            left, sets = left_by_plain_strikes(book, puzzle), strikes.sets_of(book)
            found = strikes.set_by_sets(book, puzzle, chosen)
            if () in left:
                self.assertIsNone(found)
            else:
                self.assertEqual(found, tuple(chosen[sets.index(values)] for values in left))
                self.assertIn(found, all_settings(book, puzzle))
                decided += 1
        self.assertGreater(decided, 20)

    def test_each_setting_of_the_puzzle_of_sets_will_do(self):
        puzzle = (3, ROW[1], (), ())
        settings = all_settings(CLIMB, strikes.sets_puzzle(CLIMB))
        self.assertEqual(len(settings), 2)
        self.assertEqual([strikes.set_by_sets(CLIMB, puzzle, row) for row in settings], [(0, 0, 0), (1, 1, 1)])

    def test_books_of_four_values(self):
        less = (4, True, ((2, tuple(row for row in itertools.product(range(4), repeat=2) if row[0] <= row[1])),))
        self.assertIs(is_setting(less, strikes.sets_puzzle(less), strikes.sets_setting(less)), True)
        self.assertIs(strikes.strikes_decide(less), True)
        self.assertIs(strikes.strikes_decide(FOUR), False)
        self.assertIs(strikes.is_undecided(FOUR, strikes.undecided_puzzle(FOUR)), True)
        puzzle = (2, ((0, (0, 1)),), (), ())
        self.assertEqual(strikes.left_at(FOUR, puzzle), ((0, 1, 2, 3), (0, 1, 2, 3)))


class RefusalsTest(unittest.TestCase):
    def calls(self, text, named):
        check_refusal(self, text, strikes.strikes_to, named)
        check_refusal(self, text, strikes.fewest_strikes_to, named)
        for thing in (None, (), ((0, 1, 0),)):
            check_refusal(self, text, strikes.is_strikes_to, {**named, "thing": thing})

    def test_no_place_goes_ahead_of_no_value(self):
        given = {"book": CLIMB, "puzzle": ROW}
        for place in (-1, 3, 10 ** 30, -10 ** 30):
            for value in (0, 2, -1):
                self.calls(f"NoPlace(number={place})", {**given, "place": place, "value": value})
        for value in (-1, 2, 10 ** 30, -10 ** 30):
            self.calls(f"NoValue(number={value})", {**given, "place": 0, "value": value})
        self.calls("NoPlace(number=0)", {"book": CLIMB, "puzzle": NOTHING, "place": 0, "value": 0})

    def test_what_are_no_strikes(self):
        for given in (((1, 1, 0),), ((0, 1, 0), (0, 1, 0)), ((0, 1, 0), (9, 0, 0)), ((-2, 1, 0),), ((0, -1, 0),), ((0, 1, 10 ** 30),)):
            check_refusal(self, "Unfit()", strikes.left_behind, {"book": CLIMB, "puzzle": ROW, "strikes": given})

    def test_what_is_no_setting_of_the_puzzle_of_sets(self):
        for chosen in ((), (0, 0), (0, 0, 0), (1, 1, 1), (0, 0, 1, 1), (0, 2, 1), (0, -1, 1), (0, 10 ** 30, 1)):
            check_refusal(self, "Unfit()", strikes.set_by_sets, {"book": CLIMB, "puzzle": ROW, "chosen": chosen})

    def test_unfit_goes_ahead_of_struck_empty(self):
        empty = (2, ((0, (0, 1)),), ((0, 1), (1, 0)), ())
        check_refusal(self, "Unfit()", strikes.set_by_sets, {"book": CLIMB, "puzzle": empty, "chosen": (0, 0, 0)})
        self.assertIsNone(strikes.set_by_sets(CLIMB, empty, (0, 0, 1)))


class FormsTest(unittest.TestCase):
    def test_calls_in_all_forms(self):
        given = {"book": CLIMB, "puzzle": ROW}
        left = ((1,), (0, 1), (0, 1))
        to = {**given, "place": 2, "value": 0}
        calls = [
            (strikes.first_left, given),
            (strikes.is_open, {**given, "left": left, "strike": (0, 1, 0)}),
            (strikes.open_strikes, {**given, "left": left}),
            (strikes.left_behind, {**given, "strikes": ((0, 1, 0),)}),
            (strikes.all_strikes, given),
            (strikes.left_at, given),
            (strikes.is_struck_empty, given),
            (strikes.found_by_strikes, given),
            (strikes.strikes_to, to),
            (strikes.fewest_strikes_to, to),
            (strikes.sets_of, {"book": CLIMB}),
            (strikes.sets_puzzle, {"book": CLIMB}),
            (strikes.sets_setting, {"book": CLIMB}),
            (strikes.strikes_decide, {"book": UNALIKE}),
            (strikes.set_by_sets, {**given, "chosen": (0, 0, 1)}),
            (strikes.undecided_puzzle, {"book": UNALIKE}),
        ]
        for function, named in calls:
            with self.subTest(function=function.__name__):
                check_call(self, function, named)
        things = [
            (strikes.is_left, {**given, "thing": left}),
            (strikes.is_strikes, {**given, "thing": ((0, 1, 0),)}),
            (strikes.is_strikes_to, {**to, "thing": ((0, 1, 0), (1, 1, 0))}),
            (strikes.is_undecided, {"book": UNALIKE, "thing": (3, ((0, (0, 1)), (0, (0, 2)), (0, (1, 2))), (), ())}),
        ]
        for function, named in things:
            with self.subTest(function=function.__name__):
                check_judge(self, function, named)


if __name__ == "__main__":
    unittest.main()
