"""[7]: what follows from shown rows, which rows can be shown, which kinds are needless."""

import itertools
import random
import unittest

from blendworlds import showing
from blendworlds.books import with_kind, without_kind
from blendworlds.puzzles import is_puzzle, shown_rows, with_shown
from tests.helper import MIXED, SMALL, UNLIKE, all_settings, check_call, check_examples, check_judge, check_refusal, some_books
from tests.plain import all_blends, all_tuples, keeps_a_book, makes, pool, shown_by

EXAMPLES = """
    >>> below, free = (2, False, ((2, ((0, 0), (0, 1), (1, 1))),)), (2, True, ((2, ((0, 0), (0, 1), (1, 1))),))
    >>> follows(below, ((0, 1),), (1, 1)), follows(below, ((0, 1),), (1, 0)), following(below, ((0, 1),)), following(free, ((0, 1),)), following(free, ((0, 1), (1, 0)))
    (True, False, ((0, 0), (0, 1), (1, 1)), ((0, 1),), ((0, 0), (0, 1), (1, 0), (1, 1)))
    >>> is_maker(free, ((0, 1), (1, 0)), (1, 1), (0, 1, 1, 1)), is_maker(free, ((0, 1), (1, 0)), (1, 1), (1, 1, 1, 1)), is_parting_puzzle(below, ((0, 1),), (1, 0), (2, ((0, (0, 1)),), (), (0, 1)))
    (True, False, True)
    >>> fewest_seeds(free, ((0, 1), (1, 0), (1, 1))), can_show(free, ((0, 0), (1, 1))), is_showing_puzzle(free, ((0, 0), (1, 1)), (1, (), (), (0, 0))), can_show(free, ((0, 1), (1, 0)))
    (((0, 1), (1, 0)), True, True, False)
    >>> can_be_stuck(below), can_be_stuck(free), is_stuck_puzzle(free, (2, ((0, (0, 1)),), ((0, 1), (1, 0)), ()))
    (False, True, True)
    >>> is_told_by_others(with_kind(free, (2, ((0, 0), (1, 1)))), 1), needless_kinds(with_kind(free, (2, ((0, 0), (1, 1))))), is_told_by_others(free, 0)
    (True, (1,), False)
    >>> a_maker(free, ((0, 1),), (0, 0))
    raises CanNot()
"""
BELOW, FREE = (2, False, ((2, ((0, 0), (0, 1), (1, 1))),)), (2, True, ((2, ((0, 0), (0, 1), (1, 1))),))
BARE, QUIET = (2, True, ()), (2, False, ())
EMPTY = (2, False, ((2, ()), (1, ())))
ALONE = (1, True, ((1, ((0,),)), (2, ())))
BOOKS = [BELOW, FREE, UNLIKE, SMALL, MIXED, BARE, QUIET, EMPTY, ALONE, (1, False, ())] + some_books(57, 40)


def some_rows(dice, book, many, length):
    return tuple(tuple(dice.randrange(book[0]) for _ in range(length)) for _ in range(many))


def cases(seed):
    """Books with rows of which all blends of as many can be gone through."""
    dice = random.Random(seed)
    for book in BOOKS:
        for many in (1, 2, 3) if book[0] < 3 else (1,):
            for length in dice.sample((0, 1, 2, 3, 4), 3):
                yield book, some_rows(dice, book, many, length)
    for book in (UNLIKE, MIXED, (3, False, UNLIKE[2])):
        for length in (1, 2, 4):
            yield book, some_rows(dice, book, 2, length)


def made_by_all(book, rows):
    """The set of what all blends that keep the book make of rows."""
    return {makes(book, blend, rows) for blend in all_blends(book, len(rows))} if rows[0] else {()}


class ExamplesTest(unittest.TestCase):
    def test_examples(self):
        names = {name: part for name, part in vars(showing).items() if not name.startswith("_")}
        names["with_kind"] = with_kind
        self.assertEqual(check_examples(self, EXAMPLES, names), 6)


class FollowingTest(unittest.TestCase):
    def test_by_all_blends(self):
        for book, rows in cases(1):
            expected = made_by_all(book, rows)
            self.assertEqual(showing.following(book, rows), tuple(sorted(expected)), (book, rows))
            for row in all_tuples(book[0], len(rows[0])):
                self.assertIs(showing.follows(book, rows, row), row in expected)

    def test_by_many_puzzles(self):
        dice = random.Random(2)
        known = {}
        for book, puzzles in pool():
            for puzzle, settings in dice.sample(puzzles, min(12, len(puzzles))):
                shown = tuple(dice.randrange(puzzle[0]) for _ in range(2)) if puzzle[0] else ()
                seen = {tuple(row[place] for place in shown) for row in settings}
                for rows in itertools.chain([tuple(sorted(seen))[:2]] if seen else [], [(row,) for row in sorted(seen)[:3]]):
                    if (book, rows) not in known:
                        known[book, rows] = showing.following(book, rows)
                    self.assertLessEqual(set(known[book, rows]), seen, (book, puzzle, rows))

    def test_makers(self):
        for book, rows in cases(3):
            blends = all_blends(book, len(rows))
            for row in all_tuples(book[0], len(rows[0]))[:12]:
                fitting = [blend for blend in blends if not rows[0] or makes(book, blend, rows) == row]
                named = {"book": book, "rows": rows, "row": row}
                if fitting:
                    self.assertIn(showing.a_maker(**named), fitting)
                else:
                    check_refusal(self, "CanNot()", showing.a_maker, named)
                for blend in fitting[:3] + blends[:3]:
                    self.assertIs(showing.is_maker(book, rows, row, blend), blend in fitting)

    def test_a_blend_that_breaks_the_book_is_no_maker(self):
        self.assertIs(showing.is_maker(BELOW, ((0, 1),), (1, 0), (1, 0)), False)
        self.assertIs(showing.is_maker(QUIET, ((0, 1),), (1, 0), (1, 0)), True)
        self.assertIs(showing.is_maker(BARE, ((0, 1),), (1, 0), (1, 0)), False)

    def test_parting_puzzles(self):
        for book, rows in cases(4):
            expected = made_by_all(book, rows)
            for row in all_tuples(book[0], len(rows[0]))[:12]:
                named = {"book": book, "rows": rows, "row": row}
                if row in expected:
                    check_refusal(self, "CanNot()", showing.parting_puzzle, named)
                    continue
                puzzle = showing.parting_puzzle(**named)
                self.assertIs(is_puzzle(book, puzzle), True)
                self.assertIs(showing.is_parting_puzzle(book, rows, row, puzzle), True)
                shown = shown_by(book, puzzle) if puzzle[0] < 9 else set(shown_rows(book, puzzle))
                self.assertLessEqual(set(rows), shown)
                self.assertNotIn(row, shown)

    def test_which_puzzles_part(self):
        dice = random.Random(6)
        for book, puzzles in pool():
            for puzzle, settings in dice.sample(puzzles, min(8, len(puzzles))):
                shown = tuple(dice.randrange(puzzle[0]) for _ in range(2)) if puzzle[0] else ()
                thing = with_shown(puzzle, shown)
                seen = {tuple(row[place] for place in shown) for row in settings}
                for length in (len(shown), 1):
                    rows, row = some_rows(dice, book, 2, length), some_rows(dice, book, 1, length)[0]
                    self.assertIs(showing.is_parting_puzzle(book, rows, row, thing), set(rows) <= seen and row not in seen)
                    self.assertIs(showing.is_showing_puzzle(book, rows, thing), set(rows) == seen)
                for rows in [tuple(sorted(seen)), tuple(sorted(seen)) * 2] if seen else []:
                    self.assertIs(showing.is_showing_puzzle(book, rows, thing), True)
                    self.assertIs(showing.is_showing_puzzle(book, rows[:1] + rows, thing), True)

    def test_alike_rows_and_rows_without_values(self):
        self.assertEqual(showing.following(FREE, ((0, 1), (0, 1))), ((0, 1),))
        self.assertEqual(showing.following(FREE, ((0, 1), (1, 0), (0, 1))), ((0, 0), (0, 1), (1, 0), (1, 1)))
        self.assertEqual(showing.following(FREE, ((), ())), ((),))
        self.assertIs(showing.follows(EMPTY, ((),), ()), True)
        self.assertIs(showing.is_maker(FREE, ((), ()), (), (0, 0, 0, 1)), True)
        self.assertIs(showing.is_maker(FREE, ((0, 1), (0, 1)), (0, 1), (0, 0, 0, 1)), True)
        self.assertIs(showing.can_show(FREE, ((), ())), True)
        self.assertIs(showing.is_showing_puzzle(FREE, ((),), (0, (), (), ())), True)
        self.assertIs(showing.is_showing_puzzle(FREE, ((),), (2, ((0, (0, 1)),), ((0, 1), (1, 0)), ())), False)
        self.assertEqual(len(showing.a_maker(FREE, ((0, 1), (0, 1), (0, 1)), (0, 1))), 8)

    def test_what_follows_may_be_handed_in_again(self):
        for book, rows in cases(9):
            if len(rows[0]) < 3:
                found = showing.following(book, rows)
                if len(found) < 9:
                    self.assertEqual(showing.following(book, found), found)
                    self.assertIs(showing.can_show(book, found), True)
                    self.assertIs(showing.is_showing_puzzle(book, found, showing.showing_puzzle(book, found)), True)


class SeedsTest(unittest.TestCase):
    def test_by_all_sets(self):
        for book, rows in cases(5):
            if book[0] < 3 or len(rows) == 1:
                members = sorted(set(rows))
                sets = [seeds for many in range(1, len(members) + 1) for seeds in itertools.combinations(members, many)
                        if set(members) <= made_by_all(book, seeds)]
                self.assertEqual(showing.fewest_seeds(book, rows), sets[0], (book, rows))

    def test_the_least_of_the_fewest(self):
        self.assertEqual(showing.fewest_seeds(QUIET, ((1, 1), (0, 0))), ((0, 0),))
        self.assertEqual(showing.fewest_seeds(BARE, ((1, 1), (0, 0))), ((0, 0), (1, 1)))
        self.assertEqual(showing.fewest_seeds(QUIET, ((1, 1), (0, 0), (1, 0))), ((1, 0),))
        self.assertEqual(showing.fewest_seeds(BARE, ((1, 0), (1, 0), (1, 0))), ((1, 0),))
        self.assertEqual(showing.fewest_seeds(FREE, ((), ())), ((),))


class ShowTest(unittest.TestCase):
    def test_by_all_blends(self):
        for book, rows in cases(6):
            for given in (rows, tuple(sorted(made_by_all(book, rows)))[:3]):
                if len(given) > 1 and book[0] == 3:
                    continue
                closed = made_by_all(book, given) == set(given)
                named = {"book": book, "rows": given}
                self.assertIs(showing.can_show(**named), closed, named)
                if closed:
                    puzzle = showing.showing_puzzle(**named)
                    self.assertEqual(shown_by(book, puzzle), set(given))
                    self.assertIs(is_puzzle(book, puzzle), True)
                    self.assertIs(showing.is_showing_puzzle(book, given, puzzle), True)
                else:
                    check_refusal(self, "CanNot()", showing.showing_puzzle, named)

    def test_what_puzzles_show_can_be_shown(self):
        dice = random.Random(12)
        for book, puzzles in pool():
            most = 3 if book[0] < 3 else 2
            for puzzle, settings in dice.sample(puzzles, min(8, len(puzzles))):
                for shown in [(place, other) for place in range(puzzle[0]) for other in range(place)][:2] + [()]:
                    seen = tuple(sorted({tuple(row[place] for place in shown) for row in settings}))
                    if 0 < len(seen) <= most:
                        self.assertIs(showing.can_show(book, seen), True, (book, puzzle, seen))

    def test_order_and_alike_rows_do_not_matter(self):
        self.assertIs(showing.can_show(FREE, ((1, 1), (0, 0))), True)
        self.assertIs(showing.can_show(FREE, ((1, 1), (0, 0), (1, 1))), True)
        self.assertIs(showing.can_show(FREE, ((1, 0), (0, 1), (1, 0))), False)


class StuckTest(unittest.TestCase):
    def test_by_many_puzzles(self):
        for book, puzzles in pool():
            stuck = [puzzle for puzzle, settings in puzzles if not settings]
            if showing.can_be_stuck(book):
                puzzle = showing.stuck_puzzle(book)
                self.assertIs(is_puzzle(book, puzzle), True)
                self.assertEqual(all_settings(book, puzzle), [])
                self.assertIs(showing.is_stuck_puzzle(book, puzzle), True)
            else:
                self.assertEqual(stuck, [], book)
                check_refusal(self, "CanNot()", showing.stuck_puzzle, {"book": book})
            for puzzle, settings in puzzles[:30]:
                self.assertIs(showing.is_stuck_puzzle(book, puzzle), not settings)

    def test_by_the_guarantee(self):
        for book in BOOKS:
            many, telling, kinds = book
            if telling:
                expected = any(len(rows) < many ** width for width, rows in kinds)
            else:
                expected = not any(all((value,) * width in rows for width, rows in kinds) for value in range(many))
            self.assertIs(showing.can_be_stuck(book), expected)

    def test_telling_and_not(self):
        full = (2, ((0, 0), (0, 1), (1, 0), (1, 1)))
        for book, expected in ((BARE, False), (QUIET, False), (ALONE, True), ((1, True, ((1, ((0,),)),)), False),
                               ((2, True, (full,)), False), ((2, False, (full,)), False), (FREE, True), (BELOW, False),
                               (EMPTY, True), ((1, False, ((1, ()),)), True)):
            self.assertIs(showing.can_be_stuck(book), expected, book)


class NeedlessTest(unittest.TestCase):
    def test_by_all_blends(self):
        for book in BOOKS:
            kinds = tuple((width, rows[:3 if book[0] < 3 else 1]) for width, rows in book[2])
            book = (book[0], book[1], kinds)
            needless = []
            for number, (width, rows) in enumerate(kinds):
                others = without_kind(book, number)
                told = made_by_all(others, rows) == set(rows) if rows else showing.can_be_stuck(others)
                self.assertIs(showing.is_told_by_others(book, number), told, (book, number))
                needless += [number] if told else []
            self.assertEqual(showing.needless_kinds(book), tuple(needless))

    def test_needless_kinds_are_shown_by_a_puzzle(self):
        twice = with_kind(FREE, FREE[2][0])
        self.assertEqual(showing.needless_kinds(twice), (0, 1))
        likes = with_kind(BARE, (2, ((0, 0), (1, 1))))
        self.assertEqual(showing.needless_kinds(likes), (0,))
        self.assertEqual(showing.needless_kinds(with_kind(QUIET, (1, ((1,),)))), ())
        self.assertEqual(showing.needless_kinds(with_kind(BARE, (1, ((1,),)))), (0,))
        self.assertEqual(showing.needless_kinds(QUIET), ())

    def test_kinds_without_rows(self):
        self.assertIs(showing.is_told_by_others((2, False, ((1, ()),)), 0), False)
        self.assertIs(showing.is_told_by_others((2, False, ((1, ()), (2, ()))), 0), True)
        self.assertIs(showing.is_told_by_others((2, True, ((1, ()), (1, ((0,),)))), 0), True)
        self.assertIs(showing.is_told_by_others((2, True, ((1, ()), (1, ((0,), (1,))))), 0), False)

    def test_two_of_three_values(self):
        self.assertIs(showing.is_told_by_others((3, True, (UNLIKE[2][0], (2, ((0, 1), (1, 0))))), 1), True)
        self.assertIs(showing.is_told_by_others((3, False, (UNLIKE[2][0], (2, ((0, 1), (1, 0))))), 1), False)
        self.assertIs(showing.is_told_by_others((3, True, (UNLIKE[2][0], (1, ((0,), (1,))))), 1), True)
        self.assertIs(showing.is_told_by_others((3, False, (UNLIKE[2][0], (1, ((0,), (1,))))), 1), False)


class RefusalsTest(unittest.TestCase):
    def test_no_kind(self):
        for number in (-1, 2, 10 ** 30, -10 ** 30):
            check_refusal(self, f"NoKind(number={number})", showing.is_told_by_others, {"book": SMALL, "number": number})
        check_refusal(self, "NoKind(number=0)", showing.is_told_by_others, {"book": BARE, "number": 0})

    def test_can_not(self):
        named = {"book": FREE, "rows": ((0, 1),)}
        check_refusal(self, "CanNot()", showing.a_maker, {**named, "row": (0, 0)})
        check_refusal(self, "CanNot()", showing.parting_puzzle, {**named, "row": (0, 1)})
        check_refusal(self, "CanNot()", showing.parting_puzzle, {"book": FREE, "rows": ((),), "row": ()})
        check_refusal(self, "CanNot()", showing.showing_puzzle, {"book": FREE, "rows": ((0, 1), (1, 0))})
        check_refusal(self, "CanNot()", showing.stuck_puzzle, {"book": BELOW})


class FormsTest(unittest.TestCase):
    def test_calls_in_all_forms(self):
        given = {"book": FREE, "rows": ((0, 1), (1, 0))}
        calls = [
            (showing.follows, {**given, "row": (1, 1)}),
            (showing.following, given),
            (showing.a_maker, {**given, "row": (1, 1)}),
            (showing.parting_puzzle, {"book": FREE, "rows": ((0, 1), (1, 1)), "row": (1, 0)}),
            (showing.fewest_seeds, {"book": FREE, "rows": ((1, 1), (0, 1), (1, 0))}),
            (showing.can_show, {"book": FREE, "rows": ((1, 1), (0, 1))}),
            (showing.showing_puzzle, {"book": FREE, "rows": ((1, 1), (0, 1))}),
            (showing.can_be_stuck, {"book": FREE}),
            (showing.stuck_puzzle, {"book": FREE}),
            (showing.stuck_puzzle, {"book": EMPTY}),
            (showing.is_told_by_others, {"book": SMALL, "number": 1}),
            (showing.needless_kinds, {"book": SMALL}),
        ]
        for function, named in calls:
            with self.subTest(function=function.__name__):
                check_call(self, function, named)
        things = [
            (showing.is_maker, {**given, "row": (1, 1), "thing": (0, 1, 1, 1)}),
            (showing.is_parting_puzzle, {"book": BELOW, "rows": ((0, 1),), "row": (1, 0), "thing": (2, ((0, (0, 1)),), (), (0, 1))}),
            (showing.is_showing_puzzle, {"book": FREE, "rows": ((0, 0), (1, 1)), "thing": (1, (), (), (0, 0))}),
            (showing.is_stuck_puzzle, {"book": FREE, "thing": (2, ((0, (0, 1)),), ((0, 1), (1, 0)), ())}),
        ]
        for function, named in things:
            with self.subTest(function=function.__name__):
                check_judge(self, function, named)

    def test_makers_keep_the_book(self):
        for book in (UNLIKE, MIXED):
            blend = showing.a_maker(book, ((0, 1, 2), (1, 2, 0)), (0, 1, 2))
            self.assertIs(keeps_a_book(book, 2, blend), True)


if __name__ == "__main__":
    unittest.main()
