"""[8]: spared values, small books, books that fold into others."""

import itertools
import random
import unittest

from blendworlds import spared
from blendworlds.books import without_values
from blendworlds.puzzles import is_puzzle
from tests.helper import MIXED, SMALL, UNLIKE, all_settings, check_call, check_examples, check_judge, check_refusal, some_books, some_puzzles
from tests.plain import all_blends, all_tuples, pool

EXAMPLES = """
    >>> path, ring = (3, False, ((2, ((0, 1), (1, 0), (1, 2), (2, 1))),)), (3, False, ((2, ((0, 1), (0, 2), (1, 0), (1, 2), (2, 0), (2, 1))),))
    >>> are_spared(path, (0,)), are_spared(path, (0, 2)), are_spared(ring, (1,)), sparing_blend(path, (0,)) in ((2, 1, 2), (1, 2, 1)), greatest_spared(path), wanted_values(path), greatest_spared(ring), is_small(ring)
    (True, False, False, True, [(0,), (2,)], (1,), [()], True)
    >>> small_book(path), taken_out(path, (2, 1, 0)) == small_book(path), small_book(ring) == ring, unfolded(path, (0, 1, 1))
    ((2, False, ((2, ((0, 1), (1, 0))),)), True, True, (1, 2, 2))
    >>> is_folding(path, small_book(path), folding(path)), is_folding(path, small_book(path), (0, 1, 0)), is_folding(path, ring, (0, 1, 2)), is_folding(path, ring, (0, 1, 1))
    (True, True, True, False)
    >>> triangle = (3, ((0, (0, 1)), (0, (0, 2)), (0, (1, 2))), (), ())
    >>> solves_too(path, ring), solves_too(ring, path), is_unsolved(ring, path, triangle), is_unsolved(path, ring, triangle), is_wanting(ring, (2,), triangle), is_wanting(path, (1,), (2, ((0, (0, 1)),), (), ()))
    (True, False, True, False, True, True)
    >>> up = (3, False, ((2, ((0, 0), (0, 1), (0, 2), (1, 1), (1, 2), (2, 2))),))
    >>> greatest_spared(up), small_book(up), wanted_values(up), greatest_spared((2, True, ()))
    ([(0, 1), (0, 2), (1, 2)], (1, False, ((2, ((0, 0),)),)), (), [()])
    >>> wanting_puzzle(path, (0,))
    raises CanNot()
    >>> are_spared(path, (1, 3))
    raises NoValue(number=3)
"""
PATH = (3, False, ((2, ((0, 1), (1, 0), (1, 2), (2, 1))),))
RING = (3, False, UNLIKE[2])
TRIANGLE = (3, ((0, (0, 1)), (0, (0, 2)), (0, (1, 2))), (), ())
UP = (3, False, ((2, ((0, 0), (0, 1), (0, 2), (1, 1), (1, 2), (2, 2))),))
QUIET, BARE = (3, False, ()), (3, True, ())
EMPTY = (2, False, ((2, ()), (1, ())))
ALONE = (1, True, ((1, ((0,),)), (2, ())))
FOUR = (4, False, ((2, ((0, 2), (0, 3), (1, 2), (1, 3), (2, 0), (2, 1), (3, 0), (3, 1))), (2, ((0, 0), (0, 1), (2, 2), (3, 3)))))
BOOKS = [PATH, RING, UP, UNLIKE, SMALL, MIXED, QUIET, BARE, EMPTY, ALONE, FOUR, (1, False, ())] + some_books(83, 80)


def sets_of_values(book):
    values = range(book[0])
    return [chosen for many in range(len(values) + 1) for chosen in itertools.combinations(values, many)]


def made_sets(book):
    """The sets of the values that the blends of one that keep the book make."""
    return [set(blend) for blend in all_blends(book, 1)]


def spared_sets(book):
    """All sets of values that are spared, by all blends of one."""
    return [values for values in sets_of_values(book) if any(not made & set(values) for made in made_sets(book))]


def folds(one, other):
    """All tuples by which one folds into other."""
    found = []
    for row in all_tuples(other[0], one[0]):
        pairs = [(tuple(row[value] for value in part), kind[1]) for (_, rows), kind in zip(one[2], other[2]) for part in rows]
        if all(part in rows for part, rows in pairs):
            found.append(row)
    return found


def pairs_of_books():
    """Pairs of books with kinds of the same widths."""
    dice = random.Random(14)
    pairs = [(PATH, RING), (RING, PATH), (QUIET, BARE), (BARE, QUIET), (PATH, PATH), (UP, (1, True, ((2, ((0, 0),)),))),
             (UNLIKE, PATH), ((1, False, ((2, ()),)), (1, False, ((2, ()),))), (RING, (1, False, ((2, ()),)))]
    for book in BOOKS * 2:
        many = dice.randint(1, 3)
        kinds = tuple((width, tuple(row for row in all_tuples(many, width) if dice.random() < 0.5)[:8]) for width, _ in book[2])
        pairs.append((book, (many, dice.random() < 0.5, kinds)))
    return pairs


class ExamplesTest(unittest.TestCase):
    def test_examples(self):
        names = {name: part for name, part in vars(spared).items() if not name.startswith("_")}
        self.assertEqual(check_examples(self, EXAMPLES, names), 7)


class SparedTest(unittest.TestCase):
    def test_by_all_blends_of_one(self):
        for book in BOOKS:
            known = spared_sets(book)
            for values in sets_of_values(book):
                named = {"book": book, "values": values}
                self.assertIs(spared.are_spared(**named), values in known, named)
                if values in known:
                    blend = spared.sparing_blend(**named)
                    self.assertIn(blend, all_blends(book, 1))
                    self.assertFalse(set(blend) & set(values))
                    check_refusal(self, "CanNot()", spared.wanting_puzzle, named)
                else:
                    check_refusal(self, "CanNot()", spared.sparing_blend, named)
                    self.check_wanting(book, values, spared.wanting_puzzle(**named))

    def check_wanting(self, book, values, puzzle):
        self.assertIs(is_puzzle(book, puzzle), True)
        settings = all_settings(book, puzzle)
        self.assertTrue(settings and all(set(row) & set(values) for row in settings))
        self.assertIs(spared.is_wanting(book, values, puzzle), True)

    def test_by_many_puzzles(self):
        for book, puzzles in pool():
            for values in sets_of_values(book):
                are = spared.are_spared(book, values)
                for puzzle, settings in puzzles[::7]:
                    wanting = bool(settings) and all(set(row) & set(values) for row in settings)
                    self.assertFalse(are and wanting, (book, values, puzzle))
                    self.assertIs(spared.is_wanting(book, values, puzzle), wanting)

    def test_no_values_and_all_values(self):
        for book in BOOKS:
            self.assertIs(spared.are_spared(book, ()), True)
            self.assertIs(spared.are_spared(book, tuple(range(book[0]))), False)

    def test_telling_books_spare_none(self):
        for book in BOOKS:
            if book[1]:
                self.assertEqual(spared.greatest_spared(book), [()])
                self.assertEqual(spared.wanted_values(book), tuple(range(book[0])))
                self.assertIs(spared.is_small(book), True)
                self.assertEqual(spared.small_book(book), book)
        self.assertEqual(spared.greatest_spared(QUIET), [(0, 1), (0, 2), (1, 2)])

    def test_greatest_and_wanted(self):
        for book in BOOKS:
            known = spared_sets(book)
            greatest = [values for values in known if not any(set(values) < set(other) for other in known)]
            self.assertEqual(spared.greatest_spared(book), sorted(greatest))
            wanted = tuple(value for value in range(book[0]) if (value,) not in known)
            self.assertEqual(spared.wanted_values(book), wanted)
            self.assertIs(spared.is_small(book), len(wanted) == book[0])


class SmallBookTest(unittest.TestCase):
    def test_small_book(self):
        for book in BOOKS:
            least = spared.greatest_spared(book)[0]
            small = spared.small_book(book)
            self.assertEqual(small, without_values(book, least))
            self.assertIs(spared.is_small(small), True)
            left = [value for value in range(book[0]) if value not in least]
            setting = tuple(range(small[0])) + (0, small[0] - 1)
            self.assertEqual(spared.unfolded(book, setting), tuple(left[value] for value in setting))
        self.assertEqual(spared.unfolded(PATH, ()), ())

    def test_which_of_the_greatest_goes(self):
        book = (3, False, ((1, ((0,), (2,))), (1, ((1,),))))
        self.assertEqual(spared.greatest_spared(book), [(0,), (2,)])
        self.assertEqual(spared.small_book(book), (2, False, ((1, ((1,),)), (1, ((0,),)))))
        self.assertEqual(spared.unfolded(book, (0, 1)), (1, 2))
        self.assertEqual(spared.folding(book), (1, 0, 1))

    def test_folding(self):
        for book in BOOKS:
            row = spared.folding(book)
            self.assertIn(row, folds(book, spared.small_book(book)))
            self.assertIs(spared.is_folding(book, spared.small_book(book), row), True)

    def test_taken_out(self):
        for book in BOOKS:
            for order in itertools.permutations(range(book[0])):
                gone = []
                for value in order:
                    rest = [other for other in range(book[0]) if other not in gone]
                    now = without_values(book, tuple(gone))
                    if rest.index(value) not in spared.wanted_values(now):
                        gone.append(value)
                found = spared.taken_out(book, order)
                self.assertEqual(found, without_values(book, tuple(sorted(gone))))
                self.assertEqual(found[0], spared.small_book(book)[0])

    def test_names_stay_till_the_end(self):
        book = (3, False, ((1, ((2,),)),))
        self.assertEqual(spared.taken_out(book, (0, 1, 2)), (1, False, ((1, ((0,),)),)))
        self.assertEqual(spared.taken_out(book, (0, 2, 1)), (1, False, ((1, ((0,),)),)))
        self.assertEqual(spared.taken_out((3, False, ((1, ((0,), (1,))),)), (1, 0, 2)), (1, False, ((1, ((0,),)),)))


class FoldsTest(unittest.TestCase):
    def test_is_folding(self):
        for one, other in pairs_of_books():
            known = folds(one, other)
            for row in all_tuples(other[0], one[0])[:40]:
                self.assertIs(spared.is_folding(one, other, row), row in known)

    def test_solves_too(self):
        for one, other in pairs_of_books():
            named = {"one": one, "other": other}
            self.assertIs(spared.solves_too(**named), bool(folds(one, other)), named)
            if folds(one, other):
                check_refusal(self, "CanNot()", spared.unsolved_puzzle, named)
                continue
            puzzle = spared.unsolved_puzzle(**named)
            self.assertIs(is_puzzle(one, puzzle), True)
            self.assertEqual(puzzle[2], ())
            self.assertTrue(all_settings(one, puzzle))
            self.assertEqual(all_settings(other, puzzle), [])
            self.assertIs(spared.is_unsolved(one, other, puzzle), True)

    def test_by_many_puzzles(self):
        dice = random.Random(21)
        given = some_puzzles(22, 150)
        for one, puzzle in given + [(one, puzzle) for one, puzzles in pool()[:32] for puzzle, _ in puzzles[-40:]]:
            many = dice.randint(1, 3)
            other = (many, False, tuple((width, tuple(dice.sample(all_tuples(many, width), min(many ** width, 4) // 2 + 1)))
                                        for width, _ in one[2]))
            other = (many, False, tuple((width, tuple(sorted(rows))) for width, rows in other[2]))
            unsolved = not puzzle[2] and bool(all_settings(one, puzzle)) and not all_settings(other, puzzle)
            self.assertIs(spared.is_unsolved(one, other, puzzle), unsolved)
            self.assertFalse(unsolved and spared.solves_too(one, other))

    def test_whether_the_books_tell_is_no_matter(self):
        self.assertIs(spared.solves_too(UNLIKE, RING), True)
        self.assertIs(spared.solves_too(RING, UNLIKE), True)
        self.assertIs(spared.is_unsolved(UNLIKE, PATH, TRIANGLE), True)
        self.assertIs(spared.is_unsolved(UNLIKE, PATH, (3, TRIANGLE[1], ((0, 0),), ())), False)
        self.assertIs(spared.is_unsolved(RING, PATH, (3, TRIANGLE[1], ((0, 0),), ())), False)


class RefusalsTest(unittest.TestCase):
    def test_no_value_is_the_first_one(self):
        for values, number in (((3,), 3), ((-1, 0), -1), ((0, 3, 4), 3), ((-5, -4, 9), -5), ((2, 10 ** 30), 10 ** 30)):
            named = {"book": PATH, "values": values}
            text = f"NoValue(number={number})"
            check_refusal(self, text, spared.are_spared, named)
            check_refusal(self, text, spared.sparing_blend, named)
            check_refusal(self, text, spared.wanting_puzzle, named)
            for thing in (None, TRIANGLE, ()):
                check_refusal(self, text, spared.is_wanting, {**named, "thing": thing})

    def test_no_value_goes_ahead_of_can_not(self):
        check_refusal(self, "NoValue(number=3)", spared.sparing_blend, {"book": PATH, "values": (0, 1, 2, 3)})
        check_refusal(self, "NoValue(number=-1)", spared.wanting_puzzle, {"book": PATH, "values": (-1,)})
        check_refusal(self, "CanNot()", spared.sparing_blend, {"book": PATH, "values": (0, 2)})
        check_refusal(self, "CanNot()", spared.wanting_puzzle, {"book": PATH, "values": ()})

    def test_books_of_unlike_kinds(self):
        two = (2, False, ((2, ()), (1, ())))
        for one, other in ((PATH, QUIET), (QUIET, PATH), (PATH, two), (two, (2, False, ((1, ()), (2, ())))), (PATH, (3, False, ((3, ()),)))):
            named = {"one": one, "other": other}
            check_refusal(self, "Unfit()", spared.solves_too, named)
            check_refusal(self, "Unfit()", spared.unsolved_puzzle, named)
            for thing in (None, (0, 1, 2), TRIANGLE):
                check_refusal(self, "Unfit()", spared.is_folding, {**named, "thing": thing})
                check_refusal(self, "Unfit()", spared.is_unsolved, {**named, "thing": thing})

    def test_can_not(self):
        check_refusal(self, "CanNot()", spared.unsolved_puzzle, {"one": PATH, "other": RING})


class FormsTest(unittest.TestCase):
    def test_calls_in_all_forms(self):
        calls = [
            (spared.are_spared, {"book": PATH, "values": (0,)}),
            (spared.sparing_blend, {"book": PATH, "values": (0,)}),
            (spared.wanting_puzzle, {"book": PATH, "values": (0, 2)}),
            (spared.greatest_spared, {"book": PATH}),
            (spared.wanted_values, {"book": PATH}),
            (spared.is_small, {"book": PATH}),
            (spared.small_book, {"book": PATH}),
            (spared.taken_out, {"book": PATH, "order": (2, 1, 0)}),
            (spared.folding, {"book": PATH}),
            (spared.unfolded, {"book": PATH, "setting": (0, 1, 1)}),
            (spared.solves_too, {"one": PATH, "other": RING}),
            (spared.unsolved_puzzle, {"one": RING, "other": PATH}),
        ]
        for function, named in calls:
            with self.subTest(function=function.__name__):
                check_call(self, function, named)
        things = [
            (spared.is_wanting, {"book": RING, "values": (2,), "thing": TRIANGLE}),
            (spared.is_folding, {"one": PATH, "other": RING, "thing": (0, 1, 2)}),
            (spared.is_unsolved, {"one": RING, "other": PATH, "thing": TRIANGLE}),
        ]
        for function, named in things:
            with self.subTest(function=function.__name__):
                check_judge(self, function, named)


if __name__ == "__main__":
    unittest.main()
