"""[16]: books made of two books, their puzzles and their blends."""

import itertools
import random
import unittest

from blendworlds import worlds
from blendworlds.blends import blends, free_puzzle, is_keeping
from blendworlds.books import is_book, turns_of
from blendworlds.puzzles import is_puzzle, settings
from blendworlds.spared import are_spared, greatest_spared, small_book
from blendworlds.strikes import is_undecided, strikes_decide, undecided_puzzle
from tests.helper import SMALL, UNLIKE, a_puzzle, all_settings, check_call, check_examples, check_raises, check_refusal
from tests.plain import all_blends, all_tuples, keeps_a_book
from tests.test_things import HUGE

EXAMPLES = """
    >>> book, other = (2, False, ((2, ((0, 1), (1, 0))),)), (2, False, ((2, ((0, 0), (0, 1), (1, 1))),))
    >>> both = side_by_side(book, other)
    >>> both[:2], both[2][0], len(both[2][1][1]), by_kinds(book, other)
    ((4, False), (2, ((0, 2), (0, 3), (1, 2), (1, 3), (2, 0), (2, 1), (3, 0), (3, 1))), 12, (4, False, ((2, ((0, 2), (0, 3), (1, 3), (2, 0), (2, 1), (3, 1))),)))
    >>> halves(book, other, (3, 0, 1)), joined(book, other, (1, 0, 0), (1, 0, 1))
    (((1, 0, 0), (1, 0, 1)), (3, 0, 1))
    >>> one, two = (2, ((0, (0, 1)),), (), (0,)), (2, ((0, (0, 1)), (0, (1, 0))), (), (0,))
    >>> puzzle_beside(book, other, one, two), puzzle_halves(book, other, puzzle_beside(book, other, one, two)) == (one, two)
    ((2, ((0, (0, 1)), (1, (0, 1)), (1, (1, 0))), (), (0,)), True)
    >>> blend_beside(book, other, 1, (1, 0), (0, 0)), blend_half(book, other, 1, (2, 2, 0, 0), 1), spared_pairs(book, other)
    ((2, 2, 0, 0), (1, 0), (0, 1, 2, 3))
    >>> joined(book, other, (1,), (0, 0))
    raises Unfit()
    >>> side_by_side(book, (2, True, ()))
    raises Unfit()
"""
UNALIKE, BELOW = (2, False, ((2, ((0, 1), (1, 0))),)), (2, False, ((2, ((0, 0), (0, 1), (1, 1))),))
CLIMB, TELLING = (2, True, BELOW[2]), (2, True, ())
BARE, ONE, ONE_TELLING = (2, False, ()), (1, False, ((1, ((0,),)), (2, ()))), (1, True, ((2, ((0, 0),)),))


def narrow_book(dice, many, telling):
    kinds = []
    for _ in range(dice.randint(0, 3)):
        rows = all_tuples(many, dice.choice((1, 2, 2)))
        kinds.append((len(rows[0]), tuple(sorted(dice.sample(rows, dice.randint(0, min(8, len(rows))))))))
    return many, telling, tuple(kinds)


def like_kinds(dice, book, many):
    """A book of so many values with as many kinds of the same widths."""
    kinds = []
    for width, _ in book[2]:
        rows = all_tuples(many, width)
        kinds.append((width, tuple(sorted(dice.sample(rows, dice.randint(0, min(8, len(rows))))))))
    return many, book[1], tuple(kinds)


def some_worlds():
    dice = random.Random(161)
    found = [(UNALIKE, BELOW), (BELOW, UNALIKE), (BELOW, BELOW), (CLIMB, TELLING), (BARE, BARE), (ONE, UNALIKE), (UNALIKE, ONE), (ONE, ONE),
             (ONE_TELLING, CLIMB), (CLIMB, ONE_TELLING), ((3, False, UNLIKE[2]), ONE), (ONE_TELLING, UNLIKE), ((4, False, UNALIKE[2]), ONE)]
    for _ in range(110):
        one, two = dice.choice(((2, 2), (2, 2), (2, 2), (1, 3), (3, 1), (2, 1), (1, 4)))
        book = narrow_book(dice, one, dice.random() < 0.4)
        found.append((book, like_kinds(dice, book, two) if dice.random() < 0.5 else narrow_book(dice, two, book[1])))
    return found


WORLDS = some_worlds()


def both(other, one, two):
    """The tuple of the values that stand for these halves."""
    pairs = {pair: at for at, pair in enumerate(itertools.product(range(9), range(other[0])))}
    return tuple(pairs[pair] for pair in zip(one, two))


def rows_beside(book, other, width):
    return [(both(other, one, two), one, two) for one in all_tuples(book[0], width) for two in all_tuples(other[0], width)]


def puzzles_of(dice, book, other):
    """Two puzzles that may stand beside one another."""
    one = a_puzzle(dice, book)
    two = a_puzzle(dice, other)
    while one[0] > 4 or two[0] != one[0]:
        one, two = a_puzzle(dice, book), a_puzzle(dice, other)
    return one, (two[0], two[1], tuple((place, dice.randrange(other[0])) for place, _ in one[2]), one[3])


class ExamplesTest(unittest.TestCase):
    def test_examples(self):
        names = {name: part for name, part in vars(worlds).items() if not name.startswith("_")}
        self.assertEqual(check_examples(self, EXAMPLES, names), 6)


class BooksTest(unittest.TestCase):
    def test_side_by_side(self):
        for book, other in WORLDS:
            kinds = [(width, tuple(sorted(row for row, one, _ in rows_beside(book, other, width) if one in rows))) for width, rows in book[2]]
            kinds += [(width, tuple(sorted(row for row, _, two in rows_beside(book, other, width) if two in rows))) for width, rows in other[2]]
            found = worlds.side_by_side(book, other)
            self.assertEqual(found, (book[0] * other[0], book[1], tuple(kinds)))
            self.assertIs(is_book(found), True)

    def test_by_kinds(self):
        made = 0
        for book, other in WORLDS:
            named = {"book": book, "other": other}
            if [width for width, _ in book[2]] != [width for width, _ in other[2]]:
                check_refusal(self, "Unfit()", worlds.by_kinds, named)
                continue
            made += 1
            kinds = [(width, tuple(sorted(row for row, one, two in rows_beside(book, other, width) if one in rows and two in seconds)))
                     for (width, rows), (_, seconds) in zip(book[2], other[2])]
            self.assertEqual(worlds.by_kinds(book, other), (book[0] * other[0], book[1], tuple(kinds)))
        self.assertGreater(made, 40)

    def test_halves(self):
        for book, other in WORLDS:
            for width in (0, 1, 3):
                for row, one, two in rows_beside(book, other, width):
                    self.assertEqual(worlds.halves(book, other, row), (one, two))
                    self.assertEqual(worlds.joined(book, other, one, two), row)
            for one, two in (((0,), (0, 0)), ((), (0,)), ((0, 0), ())):
                check_refusal(self, "Unfit()", worlds.joined, {"book": book, "other": other, "row": one, "second": two})

    def test_one_that_is_telling(self):
        # ahead of all else, and with all else as it should be
        blend, one, two = (0, 1), (1, (), (), ()), (2, (), (), ())
        for book, other in ((UNALIKE, TELLING), (CLIMB, BELOW), (ONE, ONE_TELLING)):
            named = {"book": book, "other": other}
            calls = [(worlds.side_by_side, {}), (worlds.by_kinds, {}), (worlds.halves, {"row": (0, 0)}), (worlds.spared_pairs, {}),
                     (worlds.joined, {"row": (0, 0), "second": (0,)}), (worlds.joined, {"row": (0, 0), "second": (0, 0)}),
                     (worlds.puzzle_beside, {"puzzle": one, "second": two}), (worlds.puzzle_beside, {"puzzle": one, "second": one}),
                     (worlds.puzzle_halves, {"puzzle": one}), (worlds.blend_beside, {"k": 1, "blend": blend, "second": blend}),
                     (worlds.blend_half, {"k": 1, "blend": (0, 1, 2, 3), "value": 7}), (worlds.blend_half, {"k": 1, "blend": (0, 1, 2, 3), "value": 0})]
            for function, more in calls:
                check_refusal(self, "Unfit()", function, {**named, **more})
        check_refusal(self, "Unfit()", worlds.by_kinds, {"book": BELOW, "other": (2, True, UNALIKE[2])})


class PuzzlesTest(unittest.TestCase):
    def test_puzzles_beside_one_another(self):
        dice = random.Random(162)
        told = 0
        for book, other in WORLDS:
            large = worlds.side_by_side(book, other)
            for _ in range(3):
                one, two = puzzles_of(dice, book, other)
                puzzle = worlds.puzzle_beside(book, other, one, two)
                ties = {(number, spots) for number, spots in one[1]} | {(number + len(book[2]), spots) for number, spots in two[1]}
                pairs = tuple((place, both(other, (value,), (half,))[0]) for (place, value), (_, half) in zip(one[2], two[2]))
                self.assertEqual(puzzle, (one[0], tuple(sorted(ties)), pairs, one[3]))
                self.assertIs(is_puzzle(large, puzzle), True)
                self.assertEqual(worlds.puzzle_halves(book, other, puzzle), (one, two))
                rows = sorted(both(other, row, second) for row in all_settings(book, one) for second in all_settings(other, two))
                self.assertEqual(settings(large, puzzle), rows)
                told += bool(pairs)
        self.assertGreater(told, 30)

    def test_puzzles_that_do_not_stand_together(self):
        one = (3, ((0, (0, 1)),), ((0, 1), (2, 0)), (1, 1))
        self.assertEqual(worlds.puzzle_beside(CLIMB, TELLING, one, (3, (), ((0, 0), (2, 1)), (1, 1)))[2], ((0, 2), (2, 1)))
        for two in ((2, (), ((0, 1), (1, 0)), (1, 1)), (4, (), ((0, 1), (2, 0)), (1, 1)), (3, (), ((0, 1),), (1, 1)), (3, (), (), (1, 1)),
                    (3, (), ((0, 1), (1, 0)), (1, 1)), (3, (), ((0, 1), (2, 0)), ()), (3, (), ((0, 1), (2, 0)), (1,)),
                    (3, (), ((0, 1), (2, 0)), (1, 2))):
            check_refusal(self, "Unfit()", worlds.puzzle_beside, {"book": CLIMB, "other": TELLING, "puzzle": one, "second": two})

    def test_no_places(self):
        nothing = (0, (), (), ())
        self.assertEqual(worlds.puzzle_beside(UNALIKE, BELOW, nothing, nothing), nothing)
        self.assertEqual(worlds.puzzle_halves(UNALIKE, BELOW, nothing), (nothing, nothing))


class BlendsTest(unittest.TestCase):
    def test_blends_beside_one_another(self):
        dice, both_ways, weaker = random.Random(163), set(), 0
        for book, other in WORLDS:
            large = worlds.side_by_side(book, other)
            for k in (1, 2):
                for _ in range(4):
                    one, two = some_blend(dice, book, k), some_blend(dice, other, k)
                    blend = worlds.blend_beside(book, other, k, one, two)
                    for row, value in zip(all_tuples(large[0], k), blend):
                        halves = [worlds.halves(book, other, (part,)) for part in row]
                        first = one[all_tuples(book[0], k).index(tuple(half[0][0] for half in halves))]
                        second = two[all_tuples(other[0], k).index(tuple(half[1][0] for half in halves))]
                        self.assertEqual((value,), both(other, (first,), (second,)))
                    good = keeps_a_book(book, k, one) and keeps_a_book(other, k, two)
                    self.assertIs(is_keeping(large, k, blend), good)
                    both_ways.add(good)
                    weaker += self.check_by_kinds(book, other, k, blend, good)
                    for value in range(other[0]):
                        half = worlds.blend_half(book, other, k, blend, value)
                        if keeps_a_book(other, k, two):
                            self.assertEqual(half, one)
        self.assertEqual(len(both_ways), 2)
        self.assertGreater(weaker, 0)

    def check_by_kinds(self, book, other, k, blend, good):
        if [width for width, _ in book[2]] != [width for width, _ in other[2]]:
            return False
        kept = is_keeping(worlds.by_kinds(book, other), k, blend)
        self.assertTrue(kept or not good)
        return kept and not good

    def test_halves_of_blends(self):
        dice = random.Random(164)
        for book, other in WORLDS:
            large = worlds.side_by_side(book, other)
            for k in (1, 2):
                kept = [blend for blend in (blends(large, 1) if k == 1 else [])]
                kept = dice.sample(kept, min(5, len(kept)))
                for blend in kept + [some_blend(dice, large, k) for _ in range(2)]:
                    for value in range(other[0]):
                        half = worlds.blend_half(book, other, k, blend, value)
                        for row, made in zip(all_tuples(book[0], k), half):
                            at = all_tuples(large[0], k).index(both(other, row, (value,) * k))
                            self.assertEqual(made, worlds.halves(book, other, (blend[at],))[0][0])
                        if blend in kept:
                            self.assertIs(keeps_a_book(book, k, half), True)
            for value in (other[0], -1, HUGE):
                named = {"book": book, "other": other, "k": 1, "blend": tuple(range(large[0])), "value": value}
                check_refusal(self, f"NoValue(number={value})", worlds.blend_half, named)

    def test_spared_pairs(self):
        seen = set()
        for book, other in WORLDS:
            large = worlds.side_by_side(book, other)
            found = tuple(value for value in range(large[0]) if any(value not in blend for blend in all_blends(large, 1)))
            self.assertEqual(worlds.spared_pairs(book, other), found, (book, other))
            seen.add(found)
        self.assertGreater(len(seen), 4)


def some_blend(dice, book, k):
    """A blend of k, at times one that keeps the book."""
    if book[0] ** k < 5 and dice.random() < 0.6:
        return dice.choice(all_blends(book, k))
    if dice.random() < 0.3:
        return tuple(values[dice.randrange(k) * 0] for values in all_tuples(book[0], k))
    return tuple(dice.randrange(book[0]) for _ in range(book[0] ** k))


class HandedOnTest(unittest.TestCase):
    def test_books_of_four_values(self):
        for book, other in WORLDS[:40]:
            large = worlds.side_by_side(book, other)
            self.assertIn(tuple(range(large[0])), turns_of(large))
            self.assertEqual(blends(large, 1), all_blends(large, 1))
            self.assertEqual(settings(large, free_puzzle(large, 1)), all_blends(large, 1))
            for values in greatest_spared(large):
                self.assertIs(are_spared(large, values), True)
            self.assertIs(is_book(small_book(large)), True)
            self.assertIs(strikes_decide(large), strikes_decide(book) and strikes_decide(other))
            paper = undecided_puzzle(large)
            self.assertTrue(paper is None or is_undecided(large, paper))

    def test_calls(self):
        for book, other in ((UNALIKE, BELOW), (CLIMB, TELLING), (SMALL, (2, True, SMALL[2]))):
            named, large = {"book": book, "other": other}, worlds.side_by_side(book, other)
            for function in (worlds.side_by_side, worlds.spared_pairs):
                check_call(self, function, named)
            if len(book[2]) == len(other[2]):
                check_call(self, worlds.by_kinds, named)
            check_call(self, worlds.halves, {**named, "row": (3, 0, 1)})
            check_call(self, worlds.joined, {**named, "row": (1, 0, 0), "second": (1, 0, 1)})
            told = ((0, 1),) if book[1] else ()
            one, two = (2, ((0, (0, 1)),), told, (0,)), (2, (), told, (0,))
            check_call(self, worlds.puzzle_beside, {**named, "puzzle": one, "second": two})
            check_call(self, worlds.puzzle_halves, {**named, "puzzle": worlds.puzzle_beside(book, other, one, two)})
            check_call(self, worlds.blend_beside, {**named, "k": 2, "blend": (0, 0, 0, 1), "second": (0, 1, 1, 1)})
            check_call(self, worlds.blend_half, {**named, "k": 1, "blend": tuple(range(large[0])), "value": 1})
        check_raises(self, "NoValue(number=2)", worlds.blend_half, UNALIKE, BELOW, 1, (0, 1, 2, 3), 2)


if __name__ == "__main__":
    unittest.main()
