"""[8], [10], [12]: inputs that are asked many times; that they tell what they told ahead of being made quicker."""

import itertools
import random
import unittest

from blendworlds import blends, spared, strikes, sums
from tests.helper import MIXED, a_book, a_puzzle, all_settings, check_call
from tests.plain import all_blends, all_tuples, keeps_a_kind, left_by_plain_strikes, makes

EVEN = (2, True, ((3, ((0, 0, 0), (0, 1, 1), (1, 0, 1), (1, 1, 0))), (3, ((0, 0, 1), (0, 1, 0), (1, 0, 0), (1, 1, 1))), (2, ((0, 1), (1, 0)))))
ROW = (5, ((0, (0, 1, 2)), (2, (2, 3))), (), ())
QUIET = (3, False, ((2, ((0, 1), (0, 2), (1, 0), (1, 2), (2, 0), (2, 1))), (2, ((0, 0), (1, 2), (2, 1)))))
UNLIKE_SETS = ((0, 4), (0, 5), (0, 6), (1, 1), (1, 2), (1, 3), (1, 5), (1, 6), (2, 1), (2, 2), (2, 3), (2, 5), (3, 1), (3, 2), (3, 3), (3, 4), (3, 5),
               (4, 0), (4, 3), (4, 6), (5, 0), (5, 1), (5, 2), (5, 3), (5, 5), (6, 0), (6, 1), (6, 4))
OTHER_SETS = ((0, 0), (1, 3), (2, 2), (3, 1), (4, 6), (5, 5), (6, 4))
OF_SETS = (7, tuple((0, spots) for spots in UNLIKE_SETS) + tuple((1, spots) for spots in OTHER_SETS), (), ())
LONG = (6, ((0, (0, 1, 2)), (0, (1, 2, 3)), (0, (2, 3, 4)), (1, (0, 1)), (1, (1, 2)), (1, (2, 3)), (1, (3, 4)), (1, (4, 5)), (2, (0,)), (2, (5,))), (), ())
STRIKES = ((0, 1, 2), (0, 2, 0), (5, 1, 0), (6, 1, 0), (7, 1, 0), (9, 0, 1))


def small_cases(seed, many):
    """Small books and puzzles of them, of at most three values, four places and two kinds."""
    dice, found = random.Random(seed), []
    while len(found) < many:
        book = a_book(dice)
        puzzle = a_puzzle(dice, (book[0], book[1], book[2][:2]))
        if puzzle[0] <= 4:
            found.append(((book[0], book[1], book[2][:2]), puzzle))
    return found


class GivenInputsTest(unittest.TestCase):
    def test_sums(self):
        self.assertIs(sums.has_sums(EVEN), True)
        self.assertIs(sums.has_sums(QUIET), False)
        self.assertEqual((sums.fewest_enough(EVEN, ROW), sums.how_many_enough(EVEN, ROW)), ((0, 1, 4), 5))
        self.assertEqual(sums.first_steps(EVEN, ROW), [(1, 0, 1, 1, 0), (0, 1, 1, 1, 0), (0, 0, 0, 0, 1)])
        for places, told, free, enough in (((0, 1), (0, 1, 2, 3), True, False), ((0, 1, 4), (0, 1, 2, 3, 4), True, True), ((2,), (2, 3), True, False),
                                           ((), (), True, False), ((0, 1, 2), (0, 1, 2, 3), False, False), ((3, 4), (2, 3, 4), True, False)):
            self.assertEqual(sums.set_by(EVEN, ROW, places), told)
            self.assertIs(sums.are_free(EVEN, ROW, places), free)
            self.assertIs(sums.are_enough(EVEN, ROW, places), enough)

    def test_sums_of_three_values(self):
        # the last two places have one and the same value, by the first two of them
        book = (3, True, ((3, tuple(row for row in all_tuples(3, 3) if sum(row) % 3 == 0)),))
        puzzle = (4, ((0, (0, 1, 2)), (0, (0, 1, 3))), (), ())
        self.assertEqual((sums.set_by(book, puzzle, (2,)), sums.set_by(book, puzzle, (3, 2)), sums.set_by(book, puzzle, (0, 2))), ((2, 3), (2, 3), (0, 1, 2, 3)))
        self.assertEqual([sums.are_free(book, puzzle, places) for places in ((2, 3), (0, 2), (1, 3), (0, 1, 2))], [False, True, True, False])
        self.assertEqual([sums.are_enough(book, puzzle, places) for places in ((2, 3), (0, 2), (1, 3), (0, 1, 2))], [False, True, True, True])
        self.assertEqual((sums.fewest_enough(book, puzzle), sums.how_many_enough(book, puzzle)), ((0, 1), 5))

    def test_sets(self):
        self.assertEqual(strikes.sets_puzzle(QUIET), OF_SETS)
        self.assertEqual(strikes.undecided_puzzle(QUIET), OF_SETS)
        self.assertIsNone(strikes.sets_setting(QUIET))
        self.assertIs(strikes.strikes_decide(QUIET), False)
        self.assertIsNone(strikes.sets_setting(EVEN))
        self.assertEqual(strikes.undecided_puzzle(EVEN), strikes.sets_puzzle(EVEN))
        self.assertEqual(len(strikes.sets_puzzle(EVEN)[1]), 25)

    def test_strikes(self):
        self.assertIs(strikes.is_strikes(MIXED, LONG, STRIKES), True)
        self.assertEqual(strikes.left_behind(MIXED, LONG, STRIKES), ((0, 1, 2), (0, 1), (1, 2), (1, 2), (1, 2), (2,)))
        first = strikes.first_left(MIXED, LONG)
        opened = ((0, 1, 2), (0, 2, 0), (1, 1, 2), (1, 2, 0), (2, 1, 2), (2, 2, 0), (8, 0, 1), (9, 0, 1))
        for strike in itertools.product(range(-1, 11), range(-1, 4), range(-1, 4)):
            self.assertIs(strikes.is_open(MIXED, LONG, first, strike), strike in opened)
        self.assertEqual(strikes.open_strikes(MIXED, LONG, first), opened)
        check_call(self, strikes.left_behind, {"book": MIXED, "puzzle": LONG, "strikes": STRIKES})
        check_call(self, strikes.is_open, {"book": MIXED, "puzzle": LONG, "left": first, "strike": (0, 1, 2)})

    def test_spared(self):
        self.assertEqual((spared.small_book(QUIET), spared.folding(QUIET), spared.unfolded(QUIET, (0, 1, 2))), (QUIET, (0, 1, 2), (0, 1, 2)))
        self.assertEqual([spared.are_spared(QUIET, values) for values in ((), (0,), (0, 1, 2))], [True, False, False])
        puzzle = (3, tuple((0, row) for row in QUIET[2][0][1]) + tuple((1, row) for row in QUIET[2][1][1]), (), ())
        self.assertEqual(spared.wanting_puzzle(QUIET, (0,)), puzzle)
        self.assertEqual(spared.sparing_blend(QUIET, ()), (0, 1, 2))
        self.assertIs(spared.is_wanting(QUIET, (0,), puzzle), True)


class SmallCasesTest(unittest.TestCase):
    def test_sums(self):
        dice = random.Random(221)
        reached = 0
        for book, puzzle in small_cases(222, 700):
            good = all(keeps_a_kind(book, 3, sums.sums_blend(book[0]), number) for number in range(len(book[2])))
            self.assertIs(sums.has_sums(book), good)
            settings = all_settings(book, puzzle)
            if not good or not settings:
                continue
            reached += 1
            sets = [places for many in range(puzzle[0] + 1) for places in itertools.combinations(range(puzzle[0]), many)]
            seen = {places: len({tuple(row[place] for place in places) for row in settings}) for places in sets}
            enough = [places for places in sets if seen[places] == len(settings)]
            self.assertEqual(sums.fewest_enough(book, puzzle), enough[0])
            self.assertEqual(sums.how_many_enough(book, puzzle), len([places for places in enough if len(places) == len(enough[0])]))
            for places in dice.sample(sets, min(5, len(sets))):
                self.assertIs(sums.are_free(book, puzzle, places), seen[places] == book[0] ** len(places))
                self.assertIs(sums.are_enough(book, puzzle, places), seen[places] == len(settings))
                told = [place for place in range(puzzle[0]) if seen[tuple(sorted({*places, place}))] == seen[places]]
                self.assertEqual(sums.set_by(book, puzzle, places), tuple(told))
        self.assertGreater(reached, 150)

    def test_sets(self):
        for book, _ in small_cases(223, 150):
            sets = sorted(chosen for many in range(1, book[0] + 1) for chosen in itertools.combinations(range(book[0]), many))
            ties = []
            for number, (width, rows) in enumerate(book[2]):
                for spots in all_tuples(len(sets), width):
                    kept = [row for row in rows if all(value in sets[spot] for value, spot in zip(row, spots))]
                    if all({row[at] for row in kept} == set(sets[spot]) for at, spot in enumerate(spots)):
                        ties.append((number, spots))
            self.assertEqual(strikes.sets_puzzle(book)[:2], (len(sets), tuple(ties)))

    def test_what_strikes_leave(self):
        for book, puzzle in small_cases(224, 300):
            left = left_by_plain_strikes(book, puzzle)
            self.assertEqual(strikes.left_at(book, puzzle), left)
            done = strikes.all_strikes(book, puzzle)
            self.assertEqual(strikes.left_behind(book, puzzle, done), left)
            self.assertIs(strikes.is_strikes(book, puzzle, done), True)
            self.assertIs(strikes.is_struck_empty(book, puzzle), () in left)

    def test_spared(self):
        for book, puzzle in small_cases(225, 150):
            kept = all_blends(book, 1)
            gone = [tuple(value for value in range(book[0]) if value not in blend) for blend in kept]
            most = max(map(len, gone))
            self.assertEqual(spared.greatest_spared(book), sorted({values for values in gone if len(values) == most}))
            settings = all_settings(book, puzzle)
            for values in [chosen for many in range(book[0] + 1) for chosen in itertools.combinations(range(book[0]), many)]:
                good = any(set(values) <= set(part) for part in gone)
                self.assertIs(spared.are_spared(book, values), good)
                wanting = bool(settings) and all(set(row) & set(values) for row in settings)
                self.assertIs(spared.is_wanting(book, values, puzzle), wanting)
                if good:
                    self.assertFalse(set(spared.sparing_blend(book, values)) & set(values))
                    self.assertIn(spared.sparing_blend(book, values), kept)
                else:
                    self.assertIs(spared.is_wanting(book, values, spared.wanting_puzzle(book, values)), True)
            self.assertIs(spared.is_folding(book, spared.small_book(book), spared.folding(book)), True)

    def test_blends_that_break(self):
        dice = random.Random(226)
        for book, _ in small_cases(227, 200):
            for k in (1, 2, 3) if book[0] < 3 else (1, 2):
                blend = tuple(dice.randrange(book[0]) for _ in range(book[0] ** k))
                for number, (_, rows) in enumerate(book[2]):
                    broken = [chosen for chosen in itertools.product(rows, repeat=k) if makes(book, blend, chosen) not in rows]
                    self.assertEqual(blends.broken_rows(book, k, blend, number), broken[0] if broken else None)
                    self.assertIs(blends.keeps_kind(book, k, blend, number), not broken)
                    for chosen in broken[:2]:
                        self.assertIs(blends.is_broken(book, k, blend, number, chosen), True)


if __name__ == "__main__":
    unittest.main()
