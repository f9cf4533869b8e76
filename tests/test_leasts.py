"""[9]: least settings by an order, and the books of which each solvable puzzle has one."""

import itertools
import random
import unittest

from blendworlds import leasts
from blendworlds.puzzles import is_puzzle
from tests.helper import LINE, MIXED, SMALL, UNLIKE, all_settings, check_call, check_examples, check_judge, check_refusal, some_books, some_puzzles
from tests.plain import all_blends, all_tuples, keeps_a_book, left_by_plain_strikes, pool

EXAMPLES = """
    >>> climb, either = (2, True, ((2, ((0, 0), (0, 1), (1, 1))),)), (2, True, ((2, ((0, 1), (1, 0), (1, 1))),))
    >>> third = (3, True, ((2, ((0, 0), (1, 2), (2, 1))),))
    >>> least_orders(climb), least_orders(either), least_orders(third), has_leasts(third, (1, 0, 2))
    ([(0, 1), (1, 0)], [(1, 0)], [(0, 1, 2), (0, 2, 1)], False)
    >>> least_blend(third, (0, 1, 2)), is_least_blend(climb, (0, 1), (0, 0, 0, 1)), is_least_blend(climb, (0, 1), (0, 1, 1, 1)), is_order(third, (2, 0, 1)), is_order(third, (0, 1))
    ((0, 0, 0, 0, 1, 0, 0, 0, 2), True, False, True, False)
    >>> row = (3, ((0, (0, 1)), (0, (1, 2))), (), ())
    >>> settings(third, row), least_setting(third, row, (0, 1, 2)), least_setting(third, row, (1, 0, 2)), len(minimal_settings(third, row, (1, 0, 2))), least_by_strikes(third, row, (1, 0, 2))
    ([(0, 0, 0), (1, 2, 1), (2, 1, 2)], (0, 0, 0), None, 3, (1, 1, 1))
    >>> least_by_strikes(climb, with_told(climb, row, 1, 1), (0, 1)), least_setting(climb, row, (1, 0)), minimal_settings(either, row, (0, 1))
    ((0, 1, 1), (1, 1, 1), [(0, 1, 0), (1, 0, 1)])
    >>> is_leastless(either, (0, 1), (2, ((0, (0, 1)),), (), ())), is_leastless(either, (1, 0), (2, ((0, (0, 1)),), (), ())), is_beneath(third, (0, 2, 1), (2, 0), (1, 0)), lowest(third, (1, 0, 2), ((0, 2), (2, 0)))
    (True, False, True, (0, 0))
    >>> least_blend(either, (0, 1))
    raises CanNot()
"""
CLIMB, EITHER = (2, True, ((2, ((0, 0), (0, 1), (1, 1))),)), (2, True, ((2, ((0, 1), (1, 0), (1, 1))),))
THIRD = (3, True, ((2, ((0, 0), (1, 2), (2, 1))),))
ROW = (3, ((0, (0, 1)), (0, (1, 2))), (), ())
NOTHING, STUCK = (0, (), (), ()), (2, ((0, (0, 1)),), ((0, 1), (1, 0)), ())
BARE, QUIET = (2, True, ()), (2, False, ())
ALONE = (1, True, ((1, ((0,),)), (2, ())))
EMPTY = (2, False, ((2, ()), (1, ())))
BOOKS = [CLIMB, EITHER, THIRD, UNLIKE, SMALL, MIXED, BARE, QUIET, EMPTY, ALONE, (1, False, ()), (3, False, ())] + some_books(91, 60)
PAIRS = [(CLIMB, ROW), (THIRD, ROW), (UNLIKE, LINE), (CLIMB, STUCK), (CLIMB, NOTHING), (BARE, (3, (), ((1, 1),), ())),
         (ALONE, (2, ((0, (1,)),), (), ()))] + some_puzzles(92, 150)


def orders(book):
    return list(itertools.permutations(range(book[0])))


def beneath(order, one, other):
    return all(order.index(low) <= order.index(high) for low, high in zip(one, other))


def least_among(order, rows):
    found = [row for row in rows if all(beneath(order, row, other) for other in rows)]
    return found[0] if found else None


def makes_beneath(book, order, blend):
    """Whether the blend of two makes of any two values one beneath both."""
    return all(beneath(order, (value, value), values) for values, value in zip(all_tuples(book[0], 2), blend))


def least_blends(book, order):
    """All blends of two that keep the book and make of any two values one beneath both."""
    if book[0] < 3:
        return [blend for blend in all_blends(book, 2) if makes_beneath(book, order, blend)]
    values = [[value for value in range(3) if beneath(order, (value, value), pair)] for pair in all_tuples(3, 2)]
    return [blend for blend in itertools.product(*values) if keeps_a_book(book, 2, blend)]


class ExamplesTest(unittest.TestCase):
    def test_examples(self):
        from blendworlds.puzzles import settings, with_told
        names = {name: part for name, part in vars(leasts).items() if not name.startswith("_")}
        self.assertEqual(check_examples(self, EXAMPLES, {**names, "settings": settings, "with_told": with_told}), 6)


class BeneathTest(unittest.TestCase):
    def test_is_beneath_and_lowest(self):
        dice = random.Random(1)
        for book in (ALONE, CLIMB, UNLIKE):
            for order in orders(book):
                for length in (0, 1, 2, 4):
                    rows = tuple(tuple(dice.randrange(book[0]) for _ in range(length)) for _ in range(dice.randint(1, 5)))
                    for one, other in itertools.product(rows, repeat=2):
                        self.assertIs(leasts.is_beneath(book, order, one, other), beneath(order, one, other))
                    expected = tuple(min(column, key=order.index) for column in zip(*rows))
                    self.assertEqual(leasts.lowest(book, order, rows), expected)

    def test_the_order_counts_not_the_numbers(self):
        self.assertIs(leasts.is_beneath(UNLIKE, (2, 0, 1), (2, 0), (0, 1)), True)
        self.assertIs(leasts.is_beneath(UNLIKE, (2, 0, 1), (0, 1), (2, 0)), False)
        self.assertIs(leasts.is_beneath(UNLIKE, (2, 0, 1), (2, 1), (0, 0)), False)
        self.assertIs(leasts.is_beneath(UNLIKE, (2, 0, 1), (), ()), True)
        self.assertEqual(leasts.lowest(UNLIKE, (2, 0, 1), ((0, 1), (1, 2))), (0, 2))
        self.assertEqual(leasts.lowest(UNLIKE, (2, 0, 1), ((0, 1),)), (0, 1))
        self.assertEqual(leasts.lowest(UNLIKE, (2, 0, 1), ((), ())), ())


class SettingsTest(unittest.TestCase):
    def test_least_and_minimal_settings(self):
        for book, puzzle in PAIRS:
            settings = all_settings(book, puzzle)
            for order in orders(book):
                named = {"book": book, "puzzle": puzzle, "order": order}
                self.assertEqual(leasts.least_setting(**named), least_among(order, settings), named)
                if len(settings) < 100:
                    minimal = [row for row in settings
                               if not any(other != row and beneath(order, other, row) for other in settings)]
                    self.assertEqual(leasts.minimal_settings(**named), minimal, named)
                left = left_by_plain_strikes(book, puzzle)
                expected = None if () in left else tuple(min(values, key=order.index) for values in left)
                self.assertEqual(leasts.least_by_strikes(**named), expected, named)

    def test_many_settings(self):
        self.assertEqual(leasts.minimal_settings((3, False, ()), (6, (), (), ()), (1, 2, 0)), [(1,) * 6])
        self.assertEqual(leasts.least_setting((3, False, ()), (6, (), (), ()), (1, 2, 0)), (1,) * 6)

    def test_no_setting_and_no_places(self):
        self.assertIsNone(leasts.least_setting(CLIMB, STUCK, (0, 1)))
        self.assertEqual(leasts.minimal_settings(CLIMB, STUCK, (0, 1)), [])
        self.assertIsNone(leasts.least_by_strikes(CLIMB, STUCK, (0, 1)))
        self.assertEqual(leasts.least_setting(CLIMB, NOTHING, (0, 1)), ())
        self.assertEqual(leasts.minimal_settings(CLIMB, NOTHING, (1, 0)), [()])
        self.assertEqual(leasts.least_by_strikes(CLIMB, NOTHING, (1, 0)), ())


class PromiseTest(unittest.TestCase):
    def test_by_all_blends_of_two(self):
        for book in BOOKS:
            good = []
            for order in orders(book):
                known, named = least_blends(book, order), {"book": book, "order": order}
                self.assertIs(leasts.has_leasts(**named), bool(known), named)
                if known:
                    good.append(order)
                    self.assertIn(leasts.least_blend(**named), known)
                    check_refusal(self, "CanNot()", leasts.leastless_puzzle, named)
                else:
                    check_refusal(self, "CanNot()", leasts.least_blend, named)
                    self.check_leastless(book, order, leasts.leastless_puzzle(**named))
            self.assertEqual(leasts.least_orders(book), good)

    def check_leastless(self, book, order, puzzle):
        self.assertIs(is_puzzle(book, puzzle), True)
        settings = all_settings(book, puzzle)
        self.assertTrue(settings)
        self.assertIsNone(least_among(order, settings))
        self.assertIs(leasts.is_leastless(book, order, puzzle), True)

    def test_which_blends(self):
        for book in BOOKS:
            for order in orders(book) if book[0] < 3 else ():
                known = least_blends(book, order)
                for blend in all_tuples(book[0], book[0] ** 2):
                    self.assertIs(leasts.is_least_blend(book, order, blend), blend in known)
        dice = random.Random(2)
        for book in (THIRD, UNLIKE, MIXED, (3, False, ()), (3, True, ())):
            for order in orders(book):
                known = least_blends(book, order)
                for blend in known[:5] + [tuple(dice.randrange(3) for _ in range(9)) for _ in range(5)]:
                    self.assertIs(leasts.is_least_blend(book, order, blend), blend in known)

    def test_by_many_puzzles(self):
        for book, puzzles in pool():
            for order in orders(book)[:3]:
                has = leasts.has_leasts(book, order)
                for puzzle, settings in puzzles[::6]:
                    leastless = bool(settings) and least_among(order, settings) is None
                    self.assertFalse(leastless and has, (book, order, puzzle))
                    self.assertIs(leasts.is_leastless(book, order, puzzle), leastless)

    def test_strikes_tell_the_least_setting_then(self):
        seen = 0
        for book, puzzle in PAIRS:
            for order in leasts.least_orders(book):
                found = leasts.least_by_strikes(book, puzzle, order)
                self.assertEqual(found, least_among(order, all_settings(book, puzzle)), (book, puzzle, order))
                seen += 1
        self.assertGreater(seen, 50)

    def test_alike_values_too(self):
        self.assertIs(leasts.has_leasts((2, False, ((2, ((0, 1), (1, 0))),)), (0, 1)), False)
        self.assertIs(leasts.is_least_blend(QUIET, (0, 1), (0, 0, 0, 0)), True)
        self.assertIs(leasts.is_least_blend(BARE, (0, 1), (0, 0, 0, 0)), False)
        self.assertIs(leasts.is_least_blend(QUIET, (1, 0), (0, 0, 0, 0)), False)
        self.assertEqual(leasts.least_blend(BARE, (1, 0)), (0, 1, 1, 1))
        self.assertEqual(leasts.least_orders(ALONE), [(0,)])


class RefusalsTest(unittest.TestCase):
    def test_tuples_of_unlike_lengths(self):
        for one, other in (((0,), ()), ((), (1,)), ((0, 1), (0,)), ((1,), (0, 0, 0))):
            check_refusal(self, "Unfit()", leasts.is_beneath, {"book": CLIMB, "order": (0, 1), "one": one, "other": other})

    def test_can_not(self):
        check_refusal(self, "CanNot()", leasts.least_blend, {"book": EITHER, "order": (0, 1)})
        check_refusal(self, "CanNot()", leasts.leastless_puzzle, {"book": EITHER, "order": (1, 0)})


class FormsTest(unittest.TestCase):
    def test_calls_in_all_forms(self):
        given = {"book": THIRD, "order": (1, 0, 2)}
        puzzle = {"book": THIRD, "puzzle": ROW, "order": (1, 0, 2)}
        calls = [
            (leasts.is_beneath, {**given, "one": (2, 0), "other": (1, 0)}),
            (leasts.lowest, {**given, "rows": ((0, 2), (2, 0))}),
            (leasts.least_setting, {**puzzle, "order": (0, 1, 2)}),
            (leasts.least_setting, puzzle),
            (leasts.minimal_settings, puzzle),
            (leasts.least_by_strikes, puzzle),
            (leasts.has_leasts, given),
            (leasts.least_orders, {"book": THIRD}),
            (leasts.least_blend, {"book": THIRD, "order": (0, 1, 2)}),
            (leasts.leastless_puzzle, given),
        ]
        for function, named in calls:
            with self.subTest(function=function.__name__):
                check_call(self, function, named)
        things = [
            (leasts.is_order, {"book": THIRD, "thing": (2, 0, 1)}),
            (leasts.is_least_blend, {"book": CLIMB, "order": (0, 1), "thing": (0, 0, 0, 1)}),
            (leasts.is_leastless, {"book": EITHER, "order": (0, 1), "thing": (2, ((0, (0, 1)),), (), ())}),
        ]
        for function, named in things:
            with self.subTest(function=function.__name__):
                check_judge(self, function, named)


if __name__ == "__main__":
    unittest.main()
