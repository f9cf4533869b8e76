"""[11]: books that go by pairs, tables of two places, settings by pairs, clashes of what is told."""

import itertools
import random
import unittest

from blendworlds import pairs
from blendworlds.blends import free_puzzle
from blendworlds.puzzles import is_puzzle, with_shown
from tests.helper import SMALL, all_settings, check_call, check_examples, check_judge, check_refusal, some_books, some_puzzles
from tests.plain import all_tuples, keeps_a_book, pool, shown_by

EXAMPLES = """
    >>> below, bars = (2, True, ((2, ((0, 0), (0, 1), (1, 1))),)), (2, True, ((3, ((0, 0, 1), (0, 1, 0), (1, 0, 0))),))
    >>> goes_by_pairs(below), goes_by_pairs(bars), is_pairs_paper(bars, ((3, ((0, (0, 1, 2)),), (), (0, 1, 2)), (0, 0, 0))), is_pairs_paper(bars, ((3, ((0, (0, 1, 2)),), (), (0, 1, 2)), (1, 1, 0)))
    (True, False, True, False)
    >>> chain = (3, ((0, (0, 1)), (0, (1, 2))), ((0, 1),), ())
    >>> first_tables(below, chain), is_tight(below, chain), tight_tables(below, chain)[2], setting_by_pairs(below, chain)
    (((0, 0, ((1, 1),)), (0, 1, ((1, 1),)), (0, 2, ((1, 0), (1, 1))), (1, 1, ((0, 0), (1, 1))), (1, 2, ((0, 0), (0, 1), (1, 1))), (2, 2, ((0, 0), (1, 1)))), False, (0, 2, ((1, 1),)), (1, 1, 1))
    >>> wrong = (3, chain[1], ((0, 1), (1, 1), (2, 0)), ())
    >>> is_empty_somewhere(below, wrong), least_clash(below, wrong), least_clash(below, chain), middle_of(below, (0, 0, 1), (0, 1, 1), (1, 1, 1))
    (True, ((0, 1), (2, 0)), None, (0, 1, 1))
    >>> setting_by_pairs(bars, (3, (), (), ()))
    raises Unfit()
    >>> setting_by_pairs(below, wrong)
    raises CanNot()
"""
BELOW, BARS = (2, True, ((2, ((0, 0), (0, 1), (1, 1))),)), (2, True, ((3, ((0, 0, 1), (0, 1, 0), (1, 0, 0))),))
CHAIN = (3, ((0, (0, 1)), (0, (1, 2))), ((0, 1),), ())
WRONG = (3, CHAIN[1], ((0, 1), (1, 1), (2, 0)), ())
NOTHING = (0, (), (), ())
BARE, QUIET = (2, True, ()), (2, False, ())
ALONE = (1, True, ((1, ((0,),)), (2, ())))
EMPTY = (2, False, ((2, ()), (1, ())))
MIDDLE = (0, 0, 0, 1, 0, 1, 1, 1)
BOOKS = [BELOW, BARS, SMALL, BARE, QUIET, EMPTY, ALONE, (1, False, ()), (2, False, BARS[2])]
BOOKS += [book for book in some_books(71, 120) if book[0] < 3]
PAIRS = [(BELOW, CHAIN), (BELOW, WRONG), (BARS, (3, ((0, (0, 1, 2)),), ((1, 0),), ())), (BELOW, NOTHING), (BARE, (2, (), ((1, 1),), ())),
         (ALONE, (2, ((0, (1,)), (1, (0, 1))), (), ())), (EMPTY, (3, ((1, (0,)),), (), ())),
         ((2, False, ((2, ((0, 1), (1, 0))),)), (2, ((0, (0, 0)),), (), ())),
         ((2, False, ((3, ((0, 0, 1), (0, 1, 0))),)), (2, ((0, (0, 0, 1)),), (), ())),
         (BELOW, free_puzzle(BELOW, 2)), (BARS, free_puzzle(BARS, 2))]
PAIRS += [(book, puzzle) for book, puzzle in some_puzzles(72, 330) if book[0] < 3]


def by_pairs(book):
    return keeps_a_book(book, 3, MIDDLE if book[0] == 2 else (0,))


def plain_first(book, puzzle):
    """The tables at first, as sets, by the words of the document."""
    places, ties, told, _ = puzzle
    tables = {}
    for one in range(places):
        for other in range(one, places):
            table = set()
            for pair in all_tuples(book[0], 2):
                values = {one: pair[0], other: pair[1]}
                fits = one != other or pair[0] == pair[1]
                fits = fits and all(values.get(place, value) == value for place, value in told)
                for number, spots in ties:
                    rows = [row for row in book[2][number][1]
                            if all(values.get(spot, value) == value for spot, value in zip(spots, row))
                            and len(set(zip(spots, row))) == len(set(spots))]
                    fits = fits and bool(rows)
                if fits:
                    table.add(pair)
            tables[one, other] = table
    return tables


def plain_tight(book, puzzle):
    """The tight tables: one pair goes that is not borne, then another one, till all are."""
    tables = plain_first(book, puzzle)

    def between(one, other):
        return tables[one, other] if one <= other else {pair[::-1] for pair in tables[other, one]}

    def unborne():
        for (one, other), table in tables.items():
            for low, high in table:
                for place in range(puzzle[0]):
                    if not any((low, value) in between(one, place) and (high, value) in between(other, place)
                               for value in range(book[0])):
                        return (one, other), (low, high)
        return None

    gone = unborne()
    while gone:
        tables[gone[0]].discard(gone[1])
        gone = unborne()
    return tables


def told_so(tables):
    return tuple((one, other, tuple(sorted(table))) for (one, other), table in sorted(tables.items()))


def is_paper(book, puzzle, row):
    """Whether the puzzle does not show the row, but each two columns of it."""
    shown = shown_by(book, puzzle)
    if not row or row in shown:
        return False
    return all(any((other[one], other[two]) == (row[one], row[two]) for other in shown)
               for one in range(len(row)) for two in range(one, len(row)))


class ExamplesTest(unittest.TestCase):
    def test_examples(self):
        names = {name: part for name, part in vars(pairs).items() if not name.startswith("_")}
        self.assertEqual(check_examples(self, EXAMPLES, names), 5)


class MiddleTest(unittest.TestCase):
    def test_middle_of(self):
        for one, two, three in itertools.product(all_tuples(2, 2), repeat=3):
            expected = tuple(sorted(values)[1] for values in zip(one, two, three))
            self.assertEqual(pairs.middle_of(BELOW, one, two, three), expected)
        self.assertEqual(pairs.middle_of(BELOW, (), (), ()), ())
        self.assertEqual(pairs.middle_of(ALONE, (0, 0), (0, 0), (0, 0)), (0, 0))

    def test_goes_by_pairs(self):
        for book in BOOKS:
            self.assertIs(pairs.goes_by_pairs(book), by_pairs(book), book)
        self.assertEqual(len({by_pairs(book) for book in BOOKS}), 2)

    def test_papers(self):
        for book in BOOKS:
            if by_pairs(book):
                check_refusal(self, "CanNot()", pairs.pairs_paper, {"book": book})
                continue
            puzzle, row = pairs.pairs_paper(book)
            self.assertIs(is_puzzle(book, puzzle), True)
            self.assertTrue(is_paper(book, puzzle, row))
            self.assertIs(pairs.is_pairs_paper(book, (puzzle, row)), True)

    def test_the_free_puzzle_is_a_paper(self):
        for book in (BARS, (2, False, BARS[2])):
            puzzle = with_shown(free_puzzle(book, 3), tuple(range(8)))
            self.assertIs(pairs.is_pairs_paper(book, (puzzle, MIDDLE)), True)

    def test_by_many_puzzles(self):
        dice = random.Random(8)
        papers = 0
        for book, puzzles in pool():
            if book[0] == 3:
                continue
            good = pairs.goes_by_pairs(book)
            for puzzle, _ in puzzles[::8] + puzzles[-3:]:
                shown = tuple(dice.randrange(puzzle[0]) for _ in range(dice.randint(0, 4))) if puzzle[0] else ()
                for thing in (with_shown(puzzle, shown), with_shown(puzzle, tuple(range(puzzle[0])))):
                    for row in all_tuples(book[0], len(thing[3]))[:16]:
                        paper = is_paper(book, thing, row)
                        papers += paper
                        self.assertFalse(paper and good, (book, thing, row))
                        self.assertIs(pairs.is_pairs_paper(book, (thing, row)), paper, (book, thing, row))
        for book in BOOKS:
            good = pairs.goes_by_pairs(book)
            for _ in range(0 if good else 12):
                ties = {(number, tuple(dice.randrange(4) for _ in range(width))) for number, (width, _) in enumerate(book[2])}
                thing = (4, tuple(sorted(ties)), (), tuple(dice.sample(range(4), 3)))
                for row in all_tuples(2, 3):
                    paper = is_paper(book, thing, row)
                    papers += paper
                    self.assertIs(pairs.is_pairs_paper(book, (thing, row)), paper, (book, thing, row))
        self.assertGreater(papers, 10)

    def test_a_place_shown_twice(self):
        puzzle = (3, ((0, (0, 1, 2)),), (), (0, 1, 2, 2))
        self.assertIs(pairs.is_pairs_paper(BARS, (puzzle, (0, 0, 0, 0))), True)
        self.assertIs(pairs.is_pairs_paper(BARS, (puzzle, (0, 0, 0, 1))), False)
        self.assertIs(pairs.is_pairs_paper(BARS, (with_shown(puzzle, (0, 0)), (1, 1))), False)
        self.assertIs(pairs.is_pairs_paper(BARS, (with_shown(puzzle, (0,)), (1,))), False)
        stuck = (2, ((0, (0, 0, 0)),), (), (0, 0))
        self.assertIs(pairs.is_pairs_paper(BARS, (stuck, (1, 1))), False)


class TablesTest(unittest.TestCase):
    def test_tables(self):
        for book, puzzle in PAIRS:
            first, tight = plain_first(book, puzzle), plain_tight(book, puzzle)
            self.assertEqual(pairs.first_tables(book, puzzle), told_so(first), (book, puzzle))
            self.assertEqual(pairs.tight_tables(book, puzzle), told_so(tight), (book, puzzle))
            self.assertIs(pairs.is_tight(book, puzzle), first == tight)
            self.assertIs(pairs.is_empty_somewhere(book, puzzle), set() in tight.values())

    def test_what_tables_tell_if_the_book_goes_by_pairs(self):
        seen = 0
        for book, puzzle in PAIRS:
            settings = all_settings(book, puzzle)
            if by_pairs(book):
                seen += 1
                self.assertIs(pairs.is_empty_somewhere(book, puzzle), not settings and puzzle[0] > 0)
                if settings:
                    for one, other, table in pairs.tight_tables(book, puzzle):
                        self.assertEqual(table, tuple(sorted({(row[one], row[other]) for row in settings})))
        self.assertGreater(seen, 60)

    def test_a_tie_that_no_row_fits_empties_all(self):
        unlike = (2, False, ((2, ((0, 1), (1, 0))),))
        self.assertEqual(pairs.first_tables(unlike, (2, ((0, (0, 0)),), (), ())), ((0, 0, ()), (0, 1, ()), (1, 1, ())))
        self.assertIs(pairs.is_empty_somewhere(unlike, (2, ((0, (0, 0)),), (), ())), True)

    def test_without_places(self):
        self.assertEqual(pairs.first_tables(BELOW, NOTHING), ())
        self.assertEqual(pairs.tight_tables(BELOW, NOTHING), ())
        self.assertIs(pairs.is_tight(BELOW, NOTHING), True)
        self.assertIs(pairs.is_empty_somewhere(BELOW, NOTHING), False)


class SettingTest(unittest.TestCase):
    def test_setting_by_pairs(self):
        seen = 0
        for book, puzzle in PAIRS:
            settings, named = all_settings(book, puzzle), {"book": book, "puzzle": puzzle}
            if not by_pairs(book):
                check_refusal(self, "Unfit()", pairs.setting_by_pairs, named)
            elif not settings:
                check_refusal(self, "CanNot()", pairs.setting_by_pairs, named)
            else:
                self.assertEqual(pairs.setting_by_pairs(**named), settings[0], named)
                seen += 1
        self.assertGreater(seen, 40)

    def test_unfit_goes_ahead_of_can_not(self):
        stuck = (3, ((0, (0, 1, 2)),), ((0, 1), (1, 1)), ())
        self.assertEqual(all_settings(BARS, stuck), [])
        check_refusal(self, "Unfit()", pairs.setting_by_pairs, {"book": BARS, "puzzle": stuck})
        check_refusal(self, "Unfit()", pairs.setting_by_pairs, {"book": BARS, "puzzle": NOTHING})
        check_refusal(self, "CanNot()", pairs.setting_by_pairs, {"book": BELOW, "puzzle": WRONG})
        self.assertEqual(pairs.setting_by_pairs(BELOW, NOTHING), ())

    def test_least_clash(self):
        clashes, dice = 0, random.Random(3)
        more = [(book, puzzle[:2] + (tuple((place, dice.randrange(book[0])) for place in range(puzzle[0])), ()))
                for book, puzzle in PAIRS if book[1]]
        for book, puzzle in PAIRS + more:
            places, ties, told, _ = puzzle
            sets = [chosen for many in range(len(told) + 1) for chosen in itertools.combinations(told, many)
                    if not all_settings(book, (places, ties, chosen, ()))]
            found = pairs.least_clash(book, puzzle)
            self.assertEqual(found, sets[0] if sets else None, (book, puzzle))
            if found is not None and by_pairs(book):
                self.assertLessEqual(len(found), 2)
            clashes += bool(found)
        self.assertGreater(clashes, 10)

    def test_clashes_of_none_and_of_three(self):
        self.assertEqual(pairs.least_clash(EMPTY, (2, ((1, (0,)),), (), ())), ())
        self.assertEqual(pairs.least_clash((2, True, EMPTY[2]), (2, ((1, (0,)),), ((0, 1), (1, 1)), ())), ())
        self.assertEqual(pairs.least_clash(BARS, (4, ((0, (0, 1, 2)),), ((0, 0), (1, 0), (2, 0), (3, 0)), ())),
                         ((0, 0), (1, 0), (2, 0)))
        self.assertEqual(pairs.least_clash(BARS, (3, ((0, (0, 1, 2)),), ((0, 1), (1, 1), (2, 1)), ())), ((0, 1), (1, 1)))
        self.assertIsNone(pairs.least_clash(BELOW, NOTHING))

    def test_the_middle_of_settings(self):
        for book, puzzle in PAIRS[:60]:
            if by_pairs(book):
                settings = all_settings(book, puzzle)
                for three in itertools.islice(itertools.product(settings, repeat=3), 60):
                    self.assertIn(pairs.middle_of(book, *three), settings)


class RefusalsTest(unittest.TestCase):
    def test_tuples_of_unlike_lengths(self):
        for three in (((0,), (0,), ()), ((0,), (0, 1), (0,)), ((), (1,), (1,)), ((0, 1), (1,), ())):
            check_refusal(self, "Unfit()", pairs.middle_of, dict(zip(("book", "one", "two", "three"), (BELOW,) + three)))

    def test_no_paper(self):
        check_refusal(self, "CanNot()", pairs.pairs_paper, {"book": BELOW})
        check_refusal(self, "CanNot()", pairs.pairs_paper, {"book": BARE})


class FormsTest(unittest.TestCase):
    def test_calls_in_all_forms(self):
        given = {"book": BELOW, "puzzle": CHAIN}
        calls = [
            (pairs.middle_of, {"book": BELOW, "one": (0, 0, 1), "two": (0, 1, 1), "three": (1, 1, 1)}),
            (pairs.goes_by_pairs, {"book": BELOW}),
            (pairs.pairs_paper, {"book": BARS}),
            (pairs.first_tables, given),
            (pairs.tight_tables, given),
            (pairs.is_tight, given),
            (pairs.is_empty_somewhere, given),
            (pairs.setting_by_pairs, given),
            (pairs.least_clash, {"book": BELOW, "puzzle": WRONG}),
        ]
        for function, named in calls:
            with self.subTest(function=function.__name__):
                check_call(self, function, named)
        paper = ((3, ((0, (0, 1, 2)),), (), (0, 1, 2)), (0, 0, 0))
        check_judge(self, pairs.is_pairs_paper, {"book": BARS, "thing": paper})


if __name__ == "__main__":
    unittest.main()
