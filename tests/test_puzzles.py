"""[5], and what [3] says of puzzles: their settings, their parts, what is made of them."""

import math
import unittest

from blendworlds import puzzles
from tests.helper import LINE, MIXED, SMALL, UNLIKE, all_settings, check_call, check_examples, check_refusal, some_puzzles

EXAMPLES = """
    >>> book = (3, True, ((2, ((0, 1), (0, 2), (1, 0), (1, 2), (2, 0), (2, 1))),))
    >>> line = (3, ((0, (0, 1)), (0, (1, 2))), ((0, 2),), (0, 2))
    >>> is_puzzle(book, (1, ((0, (0, 1)),), (), ())), is_setting(book, line, (2, 0, 2)), keeps_ties(book, line, (0, 1, 0)), broken_ties(book, line, (2, 2, 0)), settings(book, line)
    (False, True, True, ((0, (0, 1)),), [(2, 0, 1), (2, 0, 2), (2, 1, 0), (2, 1, 2)])
    >>> how_many_settings(book, beside(line, line)), nth_setting(book, line, 2), shown_rows(book, line), settings_showing(book, line, (2, 2)), values_at(book, line, 1), sure_places(book, line)
    (16, (2, 1, 0), ((2, 0), (2, 1), (2, 2)), [(2, 0, 2), (2, 1, 2)], (0, 1), ((0, 2),))
    >>> parts_of(without_tie(line, (0, (1, 2)))), part_puzzle(without_tie(line, (0, (0, 1))), 2), needless_ties(book, with_tie(book, line, 0, (1, 0))), merged(line, 2, 0)
    (((0, 1), (2,)), (2, ((0, (0, 1)),), (), (1,)), ((0, (0, 1)), (0, (1, 0))), (2, ((0, (0, 1)), (0, (1, 0))), ((0, 2),), (0, 0)))
    >>> values_at(book, line, 3)
    raises NoPlace(number=3)
    >>> with_tie(book, line, 0, (1,))
    raises Unfit()
"""
QUIET = (3, False, UNLIKE[2])
BARE = (2, True, ())
ALONE = (1, True, ((1, ((0,),)), (2, ())))
NOTHING = (0, (), (), ())
WRONG = (2, ((0, (0, 0)),), (), (0,))
PAIRS = [(UNLIKE, LINE), (UNLIKE, NOTHING), (UNLIKE, WRONG), (BARE, (4, (), ((1, 0),), (1, 3, 1))),
         (ALONE, (3, ((0, (1,)),), ((2, 0),), (0,))), (ALONE, (2, ((1, (0, 1)),), (), ())),
         (MIXED, (5, ((0, (0, 0, 1)), (0, (1, 2, 3)), (1, (3, 4))), (), (4, 0)))] + some_puzzles(23, 250)


class ExamplesTest(unittest.TestCase):
    def test_examples(self):
        names = {name: part for name, part in vars(puzzles).items() if not name.startswith("_")}
        self.assertEqual(check_examples(self, EXAMPLES, names), 5)


class SettingsTest(unittest.TestCase):
    """All that is worked out from the settings, against trying all tuples of values."""

    def test_settings_and_how_many(self):
        for book, puzzle in PAIRS:
            expected = all_settings(book, puzzle)
            self.assertEqual(puzzles.settings(book, puzzle), expected, (book, puzzle))
            self.assertEqual(puzzles.how_many_settings(book, puzzle), len(expected), (book, puzzle))
            self.assertIs(puzzles.is_solvable(book, puzzle), bool(expected))
            if expected:
                self.assertIn(puzzles.a_setting(book, puzzle), expected)
            else:
                self.assertIsNone(puzzles.a_setting(book, puzzle))

    def test_few_and_nth(self):
        for book, puzzle in PAIRS:
            expected = all_settings(book, puzzle)
            for number in sorted({0, 1, 2, len(expected) // 2, len(expected), len(expected) + 1, 10 ** 30}):
                self.assertEqual(puzzles.few_settings(book, puzzle, number), expected[:number], (book, puzzle, number))
                named = {"book": book, "puzzle": puzzle, "number": number}
                if number < len(expected):
                    self.assertEqual(puzzles.nth_setting(**named), expected[number], (book, puzzle, number))
                else:
                    check_refusal(self, "CanNot()", puzzles.nth_setting, named)

    def test_nth_counts_from_0_never_from_the_end(self):
        found = [puzzles.nth_setting(UNLIKE, LINE, number) for number in range(4)]
        self.assertEqual(found, puzzles.settings(UNLIKE, LINE))
        for number in (-1, -4, 4, -10 ** 30):
            check_refusal(self, "CanNot()", puzzles.nth_setting, {"book": UNLIKE, "puzzle": LINE, "number": number})

    def test_broken_and_kept_ties(self):
        for book, puzzle in some_puzzles(5, 60):
            quiet = (puzzle[0], puzzle[1], (), ())
            good = all_settings(book, quiet)
            for row in all_settings((book[0], book[1], ()), (puzzle[0], (), (), ()))[:50]:
                broken = puzzles.broken_ties(book, puzzle, row)
                self.assertIs(puzzles.keeps_ties(book, puzzle, row), row in good)
                self.assertEqual(broken, tuple(tie for tie in puzzle[1]
                                               if row not in all_settings(book, (puzzle[0], (tie,), (), ()))))

    def test_ties_are_kept_whatever_is_told(self):
        self.assertIs(puzzles.keeps_ties(UNLIKE, LINE, (0, 1, 0)), True)
        self.assertEqual(puzzles.broken_ties(UNLIKE, LINE, (0, 1, 0)), ())
        self.assertEqual(puzzles.broken_ties(UNLIKE, LINE, (1, 1, 1)), LINE[1])

    def test_shown_rows(self):
        for book, puzzle in PAIRS:
            rows = {tuple(row[place] for place in puzzle[3]) for row in all_settings(book, puzzle)}
            self.assertEqual(puzzles.shown_rows(book, puzzle), tuple(sorted(rows)), (book, puzzle))

    def test_nothing_shown(self):
        self.assertEqual(puzzles.shown_rows(UNLIKE, (3, LINE[1], (), ())), ((),))
        self.assertEqual(puzzles.shown_rows(UNLIKE, (2, WRONG[1], (), ())), ())
        self.assertEqual(puzzles.shown_rows(UNLIKE, NOTHING), ((),))
        self.assertEqual(puzzles.settings_showing(UNLIKE, NOTHING, ()), [()])
        self.assertEqual(puzzles.settings_showing(UNLIKE, NOTHING, (0,)), [])

    def test_a_place_shown_twice(self):
        twice = puzzles.with_shown(LINE, (2, 2, 0))
        self.assertEqual(puzzles.shown_rows(UNLIKE, twice), ((0, 0, 2), (1, 1, 2), (2, 2, 2)))
        self.assertEqual(puzzles.settings_showing(UNLIKE, twice, (2, 2, 2)), [(2, 0, 2), (2, 1, 2)])
        self.assertEqual(puzzles.settings_showing(UNLIKE, twice, (1, 2, 2)), [])

    def test_settings_showing(self):
        for book, puzzle in PAIRS:
            settings = all_settings(book, puzzle)
            rows = {tuple(row[place] for place in puzzle[3]) for row in settings}
            for shown in sorted(rows | {(0,) * len(puzzle[3]), (book[0] - 1,) * len(puzzle[3])}):
                expected = [row for row in settings if tuple(row[place] for place in puzzle[3]) == shown]
                self.assertEqual(puzzles.settings_showing(book, puzzle, shown), expected)

    def test_settings_showing_takes_any_numbers(self):
        for row in ((), (2,), (2, 0, 1), (2, 3), (-1, 0), (10 ** 30, 2), (0, 2)):
            self.assertEqual(puzzles.settings_showing(UNLIKE, LINE, row), [])

    def test_values_at_and_sure_places(self):
        for book, puzzle in PAIRS:
            settings = all_settings(book, puzzle)
            sets = [tuple(sorted({row[place] for row in settings})) for place in range(puzzle[0])]
            self.assertEqual([puzzles.values_at(book, puzzle, place) for place in range(puzzle[0])], sets)
            if settings:
                sure = tuple((place, values[0]) for place, values in enumerate(sets) if len(values) == 1)
                self.assertEqual(puzzles.sure_places(book, puzzle), sure, (book, puzzle))
            else:
                check_refusal(self, "CanNot()", puzzles.sure_places, {"book": book, "puzzle": puzzle})

    def test_a_place_twice_in_one_tie(self):
        like = (2, False, ((3, ((0, 0, 1), (0, 1, 0), (1, 1, 0))),))
        self.assertEqual(puzzles.settings(like, (2, ((0, (0, 0, 1)),), (), ())), [(0, 1), (1, 0)])
        self.assertEqual(puzzles.settings(like, (2, ((0, (0, 1, 0)),), (), ())), [(0, 1)])
        self.assertEqual(puzzles.settings(like, (1, ((0, (0, 0, 0)),), (), ())), [])

    def test_larger_puzzles(self):
        six = (6, tuple((0, (at, at + 1)) for at in range(5)), (), (0, 5))
        twelve = puzzles.with_tie(UNLIKE, puzzles.beside(six, six), 0, (5, 6))
        self.assertEqual(puzzles.how_many_settings(UNLIKE, twelve), 3 * 2 ** 11)
        self.assertEqual(puzzles.few_settings(UNLIKE, twelve, 2), [(0, 1) * 6, (0, 1) * 5 + (0, 2)])
        self.assertEqual(puzzles.nth_setting(UNLIKE, twelve, 3 * 2 ** 11 - 1), (2, 1) * 6)
        self.assertEqual(len(puzzles.settings(UNLIKE, twelve)), 3 * 2 ** 11)
        wide = NOTHING
        for _ in range(70):
            wide = puzzles.with_place(wide)
        self.assertEqual(puzzles.how_many_settings(UNLIKE, wide), 3 ** 70)
        self.assertEqual(puzzles.nth_setting(UNLIKE, wide, 3 ** 70 - 2), (2,) * 69 + (1,))
        self.assertEqual(puzzles.few_settings(UNLIKE, wide, 1), [(0,) * 70])

    def test_one_setting_is_looked_for_part_by_part(self):
        four = (4, tuple((0, (one, other)) for one in range(4) for other in range(one + 1, 4)), (), ())
        more = NOTHING
        for _ in range(6):
            more = puzzles.beside(more, LINE)
        self.assertIs(puzzles.is_solvable(UNLIKE, puzzles.beside(more, four)), False)
        self.assertIsNone(puzzles.a_setting(UNLIKE, puzzles.beside(more, four)))
        self.assertEqual(puzzles.settings(UNLIKE, puzzles.beside(more, four)), [])
        self.assertEqual(puzzles.how_many_settings(UNLIKE, more), 4 ** 6)


class PartsTest(unittest.TestCase):
    def test_parts(self):
        self.assertEqual(puzzles.parts_of(NOTHING), ())
        self.assertEqual(puzzles.parts_of((3, (), ((0, 1),), (0, 2))), ((0,), (1,), (2,)))
        self.assertEqual(puzzles.parts_of((5, ((0, (4, 0)), (0, (2, 3)), (0, (3, 3))), (), ())), ((0, 4), (1,), (2, 3)))
        self.assertEqual(puzzles.parts_of((6, ((0, (5, 4)), (0, (4, 1)), (1, (0, 2, 3))), (), ())), ((0, 2, 3), (1, 4, 5)))
        self.assertEqual(puzzles.parts_of((6, ((0, (0, 1)), (0, (1, 2)), (0, (4, 5)), (0, (5, 2))), (), ())),
                         ((0, 1, 2, 4, 5), (3,)))

    def test_part_puzzle(self):
        puzzle = (5, ((0, (1, 4)), (0, (3, 0)), (0, (4, 1))), ((0, 1), (2, 2), (4, 0)), (4, 0, 4, 2, 1))
        self.assertEqual(puzzles.part_puzzle(puzzle, 1), (2, ((0, (0, 1)), (0, (1, 0))), ((1, 0),), (1, 1, 0)))
        self.assertEqual(puzzles.part_puzzle(puzzle, 4), puzzles.part_puzzle(puzzle, 1))
        self.assertEqual(puzzles.part_puzzle(puzzle, 3), (2, ((0, (1, 0)),), ((0, 1),), (0,)))
        self.assertEqual(puzzles.part_puzzle(puzzle, 2), (1, (), ((0, 2),), (0,)))

    def test_settings_are_multiplied(self):
        for book, puzzle in PAIRS:
            parts = puzzles.parts_of(puzzle)
            self.assertEqual(sorted(place for part in parts for place in part), list(range(puzzle[0])))
            counts = []
            for part in parts:
                alone = puzzles.part_puzzle(puzzle, part[-1])
                self.assertTrue(puzzles.is_puzzle(book, alone))
                self.assertEqual(alone, puzzles.part_puzzle(puzzle, part[0]))
                self.assertEqual(puzzles.parts_of(alone), (tuple(range(len(part))),))
                counts.append(len(all_settings(book, alone)))
            self.assertEqual(math.prod(counts), puzzles.how_many_settings(book, puzzle))

    def test_beside(self):
        other = (2, ((0, (1, 0)),), ((1, 0),), (1,))
        self.assertEqual(puzzles.beside(LINE, other),
                         (5, ((0, (0, 1)), (0, (1, 2)), (0, (4, 3))), ((0, 2), (4, 0)), (0, 2, 4)))
        self.assertEqual(puzzles.beside(other, LINE),
                         (5, ((0, (1, 0)), (0, (2, 3)), (0, (3, 4))), ((1, 0), (2, 2)), (1, 2, 4)))
        self.assertEqual(puzzles.beside(NOTHING, LINE), LINE)
        self.assertEqual(puzzles.beside(LINE, NOTHING), LINE)
        two = (1, ((1, (0, 0)),), (), ())
        self.assertEqual(puzzles.beside(two, other)[1], ((0, (2, 1)), (1, (0, 0))))


class ChangesTest(unittest.TestCase):
    def test_with_and_without_tie(self):
        self.assertEqual(puzzles.with_tie(UNLIKE, LINE, 0, (0, 2)),
                         (3, ((0, (0, 1)), (0, (0, 2)), (0, (1, 2))), ((0, 2),), (0, 2)))
        self.assertEqual(puzzles.with_tie(UNLIKE, LINE, 0, (1, 2)), LINE)
        self.assertEqual(puzzles.with_tie(UNLIKE, LINE, 0, (1, 1))[1], ((0, (0, 1)), (0, (1, 1)), (0, (1, 2))))
        self.assertEqual(puzzles.without_tie(LINE, (0, (0, 1))), (3, ((0, (1, 2)),), ((0, 2),), (0, 2)))
        self.assertEqual(puzzles.with_tie(SMALL, (1, (), (), ()), 1, (0,)), (1, ((1, (0,)),), (), ()))

    def test_needless_ties(self):
        for book, puzzle in PAIRS:
            settings = all_settings(book, puzzle)
            expected = []
            for tie in puzzle[1]:
                ties = tuple(other for other in puzzle[1] if other != tie)
                if all_settings(book, (puzzle[0], ties, puzzle[2], ())) == settings:
                    expected.append(tie)
            self.assertEqual(puzzles.needless_ties(book, puzzle), tuple(expected), (book, puzzle))

    def test_told(self):
        self.assertEqual(puzzles.with_told(UNLIKE, LINE, 2, 0), (3, LINE[1], ((0, 2), (2, 0)), (0, 2)))
        self.assertEqual(puzzles.with_told(UNLIKE, LINE, 0, 1), (3, LINE[1], ((0, 1),), (0, 2)))
        self.assertEqual(puzzles.with_told(UNLIKE, LINE, 0, 2), LINE)
        self.assertEqual(puzzles.without_told(LINE, 0), (3, LINE[1], (), (0, 2)))
        three = (3, (), ((0, 1), (1, 1), (2, 0)), ())
        self.assertEqual(puzzles.without_told(three, 1), (3, (), ((0, 1), (2, 0)), ()))
        self.assertEqual(puzzles.with_told(UNLIKE, three, 1, 2), (3, (), ((0, 1), (1, 2), (2, 0)), ()))

    def test_shown_and_places(self):
        self.assertEqual(puzzles.with_shown(LINE, (2, 1, 1)), LINE[:3] + ((2, 1, 1),))
        self.assertEqual(puzzles.with_shown(LINE, ()), LINE[:3] + ((),))
        self.assertEqual(puzzles.with_place(LINE), (4, LINE[1], LINE[2], LINE[3]))
        self.assertEqual(puzzles.with_place(NOTHING), (1, (), (), ()))

    def test_merged(self):
        four = (4, ((0, (0, 3)), (0, (1, 2)), (0, (2, 3))), ((1, 2), (3, 2)), (3, 2, 0))
        self.assertEqual(puzzles.merged(four, 1, 3), (3, ((0, (0, 1)), (0, (1, 2)), (0, (2, 1))), ((1, 2),), (1, 2, 0)))
        self.assertEqual(puzzles.merged(four, 3, 1), puzzles.merged(four, 1, 3))
        self.assertEqual(puzzles.merged(four, 0, 1), (3, ((0, (0, 1)), (0, (0, 2)), (0, (1, 2))), ((0, 2), (2, 2)), (2, 1, 0)))
        self.assertEqual(puzzles.merged(four, 2, 3), (3, ((0, (0, 2)), (0, (1, 2)), (0, (2, 2))), ((1, 2), (2, 2)), (2, 2, 0)))
        for place in range(4):
            self.assertEqual(puzzles.merged(four, place, place), four)

    def test_ties_that_become_alike_are_one(self):
        self.assertEqual(puzzles.merged((3, ((0, (0, 1)), (0, (0, 2))), (), ()), 1, 2), (2, ((0, (0, 1)),), (), ()))

    def test_merged_settings(self):
        for book, puzzle in PAIRS:
            for place in range(puzzle[0]):
                for twin in range(place):
                    told = dict(puzzle[2])
                    if told.get(place, 0) != told.get(twin, told.get(place, 0)) and twin in told and place in told:
                        continue
                    one = puzzles.merged(puzzle, place, twin)
                    self.assertTrue(puzzles.is_puzzle(book, one))
                    expected = [row[:place] + row[place + 1:] for row in all_settings(book, puzzle) if row[place] == row[twin]]
                    self.assertEqual(all_settings(book, one), expected)

    def test_what_comes_and_goes(self):
        for book, puzzle in PAIRS[:80]:
            settings = puzzles.settings(book, puzzle)
            for tie in puzzle[1]:
                more = puzzles.settings(book, puzzles.without_tie(puzzle, tie))
                self.assertLessEqual(set(settings), set(more))
                self.assertEqual(puzzles.with_tie(book, puzzles.without_tie(puzzle, tie), *tie), puzzle)
            for place, value in puzzle[2]:
                more = puzzles.settings(book, puzzles.without_told(puzzle, place))
                self.assertLessEqual(set(settings), set(more))
                self.assertEqual(puzzles.with_told(book, puzzles.without_told(puzzle, place), place, value), puzzle)


class RefusalsTest(unittest.TestCase):
    def test_no_kind_goes_ahead_of_all_else(self):
        for number in (-1, 1, 10 ** 30):
            for spots in ((0, 1), (7, -1), (0,), ()):
                named = {"book": UNLIKE, "puzzle": LINE, "number": number, "spots": spots}
                check_refusal(self, f"NoKind(number={number})", puzzles.with_tie, named)
        check_refusal(self, "NoKind(number=0)", puzzles.with_tie, {"book": BARE, "puzzle": NOTHING, "number": 0, "spots": ()})

    def test_no_place_is_the_first_one_and_ahead_of_unfit(self):
        for spots, number in (((0, 3), 3), ((-1, 3), -1), ((0, 1, 9, 8), 9), ((10 ** 30,), 10 ** 30)):
            text = f"NoPlace(number={number})"
            check_refusal(self, text, puzzles.with_tie, {"book": UNLIKE, "puzzle": LINE, "number": 0, "spots": spots})
            check_refusal(self, text, puzzles.with_shown, {"puzzle": LINE, "shown": spots})
        for place in (-1, 3, 10 ** 30, -10 ** 30):
            text = f"NoPlace(number={place})"
            check_refusal(self, text, puzzles.values_at, {"book": UNLIKE, "puzzle": LINE, "place": place})
            check_refusal(self, text, puzzles.part_puzzle, {"puzzle": LINE, "place": place})
            check_refusal(self, text, puzzles.without_told, {"puzzle": LINE, "place": place})
            check_refusal(self, text, puzzles.merged, {"puzzle": LINE, "place": place, "twin": 7})
            check_refusal(self, text, puzzles.merged, {"puzzle": LINE, "place": 0, "twin": place})
            check_refusal(self, text, puzzles.merged, {"puzzle": LINE, "place": place, "twin": place})

    def test_with_told_looks_at_the_place_then_the_value_then_the_book(self):
        for book in (UNLIKE, QUIET):
            puzzle = (3, LINE[1], (), ())
            named = {"book": book, "puzzle": puzzle, "place": 3, "value": 3}
            check_refusal(self, "NoPlace(number=3)", puzzles.with_told, named)
            check_refusal(self, "NoPlace(number=-1)", puzzles.with_told, {**named, "place": -1})
            check_refusal(self, "NoValue(number=3)", puzzles.with_told, {**named, "place": 2})
            check_refusal(self, "NoValue(number=-1)", puzzles.with_told, {**named, "place": 0, "value": -1})
        check_refusal(self, "Unfit()", puzzles.with_told, {"book": QUIET, "puzzle": (3, (), (), ()), "place": 2, "value": 2})

    def test_unfit(self):
        for spots in ((), (1,), (0, 1, 2), (0, 0, 0)):
            check_refusal(self, "Unfit()", puzzles.with_tie, {"book": UNLIKE, "puzzle": LINE, "number": 0, "spots": spots})
        for tie in ((0, (1, 0)), (0, (0, 2)), (0, (7, 9)), (0, (0, 0))):
            check_refusal(self, "Unfit()", puzzles.without_tie, {"puzzle": LINE, "tie": tie})
        check_refusal(self, "Unfit()", puzzles.without_tie, {"puzzle": NOTHING, "tie": (0, (0, 1))})
        for place in (1, 2):
            check_refusal(self, "Unfit()", puzzles.without_told, {"puzzle": LINE, "place": place})
        told = (3, (), ((0, 1), (2, 0)), ())
        check_refusal(self, "Unfit()", puzzles.merged, {"puzzle": told, "place": 0, "twin": 2})
        check_refusal(self, "Unfit()", puzzles.merged, {"puzzle": told, "place": 2, "twin": 0})

    def test_merged_fits_if_at_most_one_value_is_told(self):
        told = (3, (), ((0, 1), (2, 1)), ())
        self.assertEqual(puzzles.merged(told, 2, 0), (2, (), ((0, 1),), ()))
        self.assertEqual(puzzles.merged(told, 1, 2), (2, (), ((0, 1), (1, 1)), ()))

    def test_can_not(self):
        check_refusal(self, "CanNot()", puzzles.sure_places, {"book": UNLIKE, "puzzle": WRONG})
        check_refusal(self, "CanNot()", puzzles.nth_setting, {"book": UNLIKE, "puzzle": WRONG, "number": 0})
        self.assertEqual(puzzles.sure_places(UNLIKE, NOTHING), ())
        self.assertEqual(puzzles.values_at(UNLIKE, WRONG, 1), ())


class FormsTest(unittest.TestCase):
    def test_calls_in_all_forms(self):
        given = {"book": UNLIKE, "puzzle": LINE}
        calls = [
            (puzzles.broken_ties, {**given, "setting": (2, 2, 0)}),
            (puzzles.keeps_ties, {**given, "setting": (2, 2, 0)}),
            (puzzles.parts_of, {"puzzle": LINE}),
            (puzzles.settings, given),
            (puzzles.few_settings, {**given, "number": 2}),
            (puzzles.few_settings, {**given, "number": 9}),
            (puzzles.a_setting, given),
            (puzzles.is_solvable, given),
            (puzzles.how_many_settings, given),
            (puzzles.nth_setting, {**given, "number": 3}),
            (puzzles.shown_rows, given),
            (puzzles.settings_showing, {**given, "row": (2, 2)}),
            (puzzles.settings_showing, {**given, "row": (2,)}),
            (puzzles.values_at, {**given, "place": 2}),
            (puzzles.sure_places, given),
            (puzzles.part_puzzle, {"puzzle": LINE, "place": 1}),
            (puzzles.with_tie, {**given, "number": 0, "spots": (2, 2)}),
            (puzzles.without_tie, {"puzzle": LINE, "tie": (0, (1, 2))}),
            (puzzles.needless_ties, {"book": MIXED, "puzzle": PAIRS[6][1]}),
            (puzzles.with_told, {**given, "place": 1, "value": 1}),
            (puzzles.without_told, {"puzzle": LINE, "place": 0}),
            (puzzles.with_shown, {"puzzle": LINE, "shown": (1, 1)}),
            (puzzles.with_place, {"puzzle": LINE}),
            (puzzles.merged, {"puzzle": LINE, "place": 2, "twin": 0}),
            (puzzles.merged, {"puzzle": LINE, "place": 1, "twin": 1}),
            (puzzles.beside, {"one": LINE, "other": WRONG}),
        ]
        for function, named in calls:
            with self.subTest(function=function.__name__):
                check_call(self, function, named)
        check_call(self, puzzles.is_puzzle, {"book": UNLIKE, "thing": LINE}, ("thing",))
        check_call(self, puzzles.is_setting, {**given, "thing": (2, 0, 1)}, ("thing",))

    def test_settings_may_be_handed_in_again(self):
        for row in puzzles.settings(UNLIKE, LINE):
            self.assertIs(puzzles.is_setting(UNLIKE, LINE, row), True)
            self.assertIn(row, puzzles.settings_showing(UNLIKE, LINE, (row[0], row[2])))


if __name__ == "__main__":
    unittest.main()
