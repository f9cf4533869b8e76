"""[12]: books that have sums, steps of their puzzles, places that are free or enough."""

import itertools
import random
import unittest

from blendworlds import sums
from blendworlds.puzzles import is_puzzle
from tests.helper import UNLIKE, all_settings, check_call, check_examples, check_judge, check_refusal, some_books
from tests.plain import all_tuples, keeps_a_book, pool

EXAMPLES = """
    >>> even, unlike = (3, ((0, 0, 0), (0, 1, 1), (1, 0, 1), (1, 1, 0))), (2, ((0, 1), (1, 0)))
    >>> book, climb = (2, True, (even, unlike)), (2, False, ((2, ((0, 0), (0, 1), (1, 1))),))
    >>> row = (4, ((0, (0, 1, 2)), (1, (2, 3))), (), ())
    >>> sums_blend(2), has_sums(book), has_sums(climb), is_sums_paper(climb, ((2, ((0, (0, 1)),), (), ()), ((0, 0), (0, 1), (1, 1))))
    ((0, 1, 1, 0, 1, 0, 0, 1), True, False, True)
    >>> steps_of(book, row), free_places(book, row), first_steps(book, row), how_many_steps(book, row)
    ([(0, 0, 0, 0), (0, 1, 1, 1), (1, 0, 1, 1), (1, 1, 0, 0)], (0, 1), [(1, 0, 1, 1), (0, 1, 1, 1)], 2)
    >>> are_free(book, row, (0, 3)), are_free(book, row, (2, 3)), are_enough(book, row, (0, 1, 2)), are_enough(book, row, (2, 3)), fewest_enough(book, row), how_many_enough(book, row), set_by(book, row, (2,)), set_by(book, row, ())
    (True, False, True, False, (0, 1), 5, (2, 3), ())
    >>> told = (4, row[1], ((2, 1),), ())
    >>> step_at(book, told, 3), step_at(book, told, 0), fewest_enough(book, told), set_by(book, told, (0,))
    (None, (1, 1, 0, 0), (0,), (0, 1, 2, 3))
    >>> steps_of(climb, (2, ((0, (0, 1)),), (), ()))
    raises Unfit()
    >>> steps_of(book, (1, ((1, (0, 0)),), (), ()))
    raises CanNot()
    >>> step_at(book, row, 4)
    raises NoPlace(number=4)
"""
EVEN, UNALIKE = (3, ((0, 0, 0), (0, 1, 1), (1, 0, 1), (1, 1, 0))), (2, ((0, 1), (1, 0)))
BOOK, CLIMB = (2, True, (EVEN, UNALIKE)), (2, False, ((2, ((0, 0), (0, 1), (1, 1))),))
ROW, STUCK, NOTHING = (4, ((0, (0, 1, 2)), (1, (2, 3))), (), ()), (1, ((1, (0, 0)),), (), ()), (0, (), (), ())
ALONE = (1, True, ((1, ((0,),)), (2, ((0, 0),))))


def linear_kind(dice, many):
    """A kind of the rows that fulfil some equations, reckoned round."""
    width = dice.randint(1, 3)
    given = [(tuple(dice.randrange(many) for _ in range(width)), dice.randrange(many)) for _ in range(dice.randint(1, 2))]
    rows = tuple(row for row in all_tuples(many, width)
                 if all(sum(left * right for left, right in zip(weights, row)) % many == worth for weights, worth in given))
    return width, rows[:0] if len(rows) > 9 else rows


def linear_cases(seed, many_cases):
    """Books that have sums, each with a puzzle."""
    dice = random.Random(seed)
    found = []
    for _ in range(many_cases):
        many = dice.choice((1, 2, 2, 3, 3))
        book = (many, dice.random() < 0.5, tuple(linear_kind(dice, many) for _ in range(dice.randint(0, 3))))
        places = dice.choice((0, 1, 2, 3, 4, 5))
        ties = {(number, tuple(dice.randrange(places) for _ in range(book[2][number][0])))
                for number in (dice.randrange(len(book[2])) for _ in range(dice.randint(0, 4))) if places} if book[2] else set()
        told = tuple((place, dice.randrange(many)) for place in range(places) if book[1] and dice.random() < 0.15)
        found.append((book, (places, tuple(sorted(ties)), told, ())))
    return found


CASES = [(BOOK, ROW), (BOOK, NOTHING), (BOOK, STUCK), (ALONE, (3, ((0, (1,)), (1, (0, 2))), ((1, 0),), ())), (ALONE, NOTHING),
         ((2, False, ()), (4, (), (), ())), ((3, True, ()), (3, (), ((1, 2),), ()))] + linear_cases(4, 300)
SOLVABLE = [(book, puzzle) for book, puzzle in CASES if all_settings(book, puzzle)]
BOOKS = [BOOK, CLIMB, UNLIKE, ALONE, (2, True, ()), (3, False, ()), (1, False, ((1, ()),)), (3, True, ((2, ((0, 1), (1, 2), (2, 0))),))]
BOOKS += some_books(55, 60) + [book for book, _ in linear_cases(5, 40)]


def made(many, one, two, three):
    return tuple((low - mid + high) % many for low, mid, high in zip(one, two, three))


def plain_has_sums(book):
    return keeps_a_book(book, 3, tuple((one - two + three) % book[0] for one, two, three in all_tuples(book[0], 3)))


def plain_steps(book, puzzle):
    settings = all_settings(book, puzzle)
    return sorted({tuple((high - low) % book[0] for high, low in zip(one, other)) for one in settings for other in settings[:1]})


def sets_of_places(puzzle):
    return [places for many in range(puzzle[0] + 1) for places in itertools.combinations(range(puzzle[0]), many)]


class ExamplesTest(unittest.TestCase):
    def test_examples(self):
        names = {name: part for name, part in vars(sums).items() if not name.startswith("_")}
        self.assertEqual(check_examples(self, EXAMPLES, names), 7)


class SumsTest(unittest.TestCase):
    def test_sums_blend(self):
        self.assertEqual(sums.sums_blend(1), (0,))
        for many in (2, 3):
            found = dict(zip(all_tuples(many, 3), sums.sums_blend(many)))
            self.assertEqual(len(sums.sums_blend(many)), many ** 3)
            for (one, two, three), value in found.items():
                self.assertEqual((value - one + two - three) % many, 0)
                self.assertIn(value, range(many))

    def test_has_sums(self):
        for book in BOOKS:
            self.assertIs(sums.has_sums(book), plain_has_sums(book), book)
        self.assertEqual(len({plain_has_sums(book) for book in BOOKS}), 2)
        for book, _ in CASES:
            self.assertIs(sums.has_sums(book), True)

    def test_papers(self):
        for book in BOOKS:
            if plain_has_sums(book):
                check_refusal(self, "CanNot()", sums.sums_paper, {"book": book})
                continue
            puzzle, three = sums.sums_paper(book)
            settings = all_settings(book, puzzle)
            self.assertIs(is_puzzle(book, puzzle), True)
            self.assertTrue(len(three) == 3 and all(row in settings for row in three))
            self.assertNotIn(made(book[0], *three), settings)
            self.assertIs(sums.is_sums_paper(book, (puzzle, three)), True)

    def test_by_many_puzzles(self):
        dice = random.Random(3)
        papers = 0
        for book, puzzles in pool():
            good = sums.has_sums(book)
            for puzzle, settings in puzzles[::9]:
                for _ in range(6 if settings else 0):
                    three = tuple(dice.choice(settings) for _ in range(3))
                    paper = made(book[0], *three) not in settings
                    papers += paper
                    self.assertFalse(paper and good, (book, puzzle, three))
                    self.assertIs(sums.is_sums_paper(book, (puzzle, three)), paper)
        self.assertGreater(papers, 20)


class StepsTest(unittest.TestCase):
    def test_there_are_cases(self):
        self.assertGreater(len(SOLVABLE), 100)
        self.assertGreater(len([1 for book, puzzle in SOLVABLE if len(all_settings(book, puzzle)) > 8]), 40)

    def test_steps(self):
        for book, puzzle in SOLVABLE:
            steps = plain_steps(book, puzzle)
            self.assertEqual(sums.steps_of(book, puzzle), steps, (book, puzzle))
            starts = {min(place for place, value in enumerate(step) if value) for step in steps if any(step)}
            free = tuple(sorted(starts))
            self.assertEqual(sums.free_places(book, puzzle), free)
            self.assertEqual(sums.how_many_steps(book, puzzle), len(free))
            first = [step for place in free for step in steps
                     if all(step[other] == (1 if other == place else 0) for other in free)]
            self.assertEqual(sums.first_steps(book, puzzle), first)
            self.assertEqual(len(first), len(free))
            self.assertEqual(len(all_settings(book, puzzle)), book[0] ** len(free))

    def test_each_setting_with_each_step_is_one(self):
        for book, puzzle in SOLVABLE[:80]:
            settings = all_settings(book, puzzle)
            for row, step in itertools.product(settings[:9], sums.steps_of(book, puzzle)[:9]):
                self.assertIn(tuple((value + more) % book[0] for value, more in zip(row, step)), settings)

    def test_no_first_step(self):
        told = (4, ROW[1], ((0, 0), (1, 1)), ())
        self.assertEqual(sums.steps_of(BOOK, told), [(0, 0, 0, 0)])
        self.assertEqual(sums.first_steps(BOOK, told), [])
        self.assertEqual(sums.free_places(BOOK, told), ())
        self.assertEqual(sums.how_many_steps(BOOK, told), 0)
        self.assertEqual(sums.fewest_enough(BOOK, told), ())
        self.assertEqual(sums.how_many_enough(BOOK, told), 1)
        self.assertIs(sums.are_enough(BOOK, told, ()), True)
        self.assertIs(sums.are_free(BOOK, told, ()), True)
        self.assertEqual(sums.set_by(BOOK, told, ()), (0, 1, 2, 3))
        self.assertEqual(sums.steps_of(BOOK, NOTHING), [()])
        self.assertEqual(sums.fewest_enough(BOOK, NOTHING), ())
        self.assertEqual(sums.set_by(BOOK, NOTHING, ()), ())

    def test_free_and_enough(self):
        for book, puzzle in SOLVABLE:
            settings = all_settings(book, puzzle)
            enough = []
            for places in sets_of_places(puzzle):
                seen = [tuple(row[place] for place in places) for row in settings]
                named = {"book": book, "puzzle": puzzle, "places": places}
                self.assertIs(sums.are_free(**named), len(set(seen)) == book[0] ** len(places), named)
                self.assertIs(sums.are_enough(**named), len(set(seen)) == len(seen), named)
                enough += [places] if len(set(seen)) == len(seen) else []
                alike = [place for place in range(puzzle[0])
                         if len(set(zip(seen, [row[place] for row in settings]))) == len(set(seen))]
                self.assertEqual(sums.set_by(**named), tuple(alike), named)
            fewest = [places for places in enough if len(places) == len(enough[0])]
            self.assertEqual(sums.fewest_enough(book, puzzle), fewest[0])
            self.assertEqual(sums.how_many_enough(book, puzzle), len(fewest))
            self.assertEqual(len(fewest[0]), sums.how_many_steps(book, puzzle))

    def test_step_at(self):
        for book, puzzle in SOLVABLE:
            steps = plain_steps(book, puzzle)
            for place in range(puzzle[0]):
                found = sums.step_at(book, puzzle, place)
                if any(step[place] for step in steps):
                    self.assertIn(found, steps)
                    self.assertNotEqual(found[place], 0)
                else:
                    self.assertIsNone(found)

    def test_larger_puzzles(self):
        wide = (14, tuple((0, (place, place + 1, place + 2)) for place in range(0, 12, 2)), (), ())
        self.assertEqual(sums.how_many_steps(BOOK, wide), 8)
        self.assertEqual(len(sums.fewest_enough(BOOK, wide)), 8)
        self.assertIs(sums.are_enough(BOOK, wide, tuple(range(13))), False)


class RefusalsTest(unittest.TestCase):
    CALLS = [sums.steps_of, sums.free_places, sums.first_steps, sums.how_many_steps, sums.fewest_enough, sums.how_many_enough]
    AT_PLACES = [sums.are_free, sums.are_enough, sums.set_by]

    def check_all(self, text, named, places, place):
        for function in self.CALLS if places == () else []:
            check_refusal(self, text, function, named)
        for function in self.AT_PLACES:
            check_refusal(self, text, function, {**named, "places": places})
        if place is not None:
            check_refusal(self, text, sums.step_at, {**named, "place": place})

    def test_unfit_goes_ahead_of_can_not_ahead_of_no_place(self):
        stuck = (2, True, ((2, ((0, 0), (0, 1), (1, 1))), UNALIKE))
        for places, place in (((), 0), ((0, 7), 7), ((-1,), -1)):
            for puzzle in ((2, ((0, (0, 1)),), (), ()), (2, ((1, (0, 0)),), (), ()), NOTHING):
                self.check_all("Unfit()", {"book": stuck, "puzzle": puzzle}, places, place)
            self.check_all("CanNot()", {"book": BOOK, "puzzle": STUCK}, places, place)

    def test_no_place_is_the_first_one(self):
        given = {"book": BOOK, "puzzle": ROW}
        for places, place in (((0, 4), 4), ((-1, 4), -1), ((4, 5), 4), ((10 ** 30,), 10 ** 30), ((-10 ** 30,), -10 ** 30)):
            self.check_all(f"NoPlace(number={place})", given, places, place)
        self.check_all("NoPlace(number=0)", {"book": BOOK, "puzzle": NOTHING}, (0,), 0)

    def test_no_paper(self):
        check_refusal(self, "CanNot()", sums.sums_paper, {"book": BOOK})
        check_refusal(self, "CanNot()", sums.sums_paper, {"book": ALONE})


class FormsTest(unittest.TestCase):
    def test_calls_in_all_forms(self):
        given = {"book": BOOK, "puzzle": ROW}
        calls = [
            (sums.sums_blend, {"many": 3}),
            (sums.has_sums, {"book": BOOK}),
            (sums.sums_paper, {"book": CLIMB}),
            (sums.steps_of, given),
            (sums.free_places, given),
            (sums.first_steps, given),
            (sums.how_many_steps, given),
            (sums.are_free, {**given, "places": (0, 3)}),
            (sums.are_enough, {**given, "places": (0, 1)}),
            (sums.fewest_enough, given),
            (sums.how_many_enough, given),
            (sums.set_by, {**given, "places": (2,)}),
            (sums.step_at, {**given, "place": 3}),
        ]
        for function, named in calls:
            with self.subTest(function=function.__name__):
                check_call(self, function, named)
        paper = ((2, ((0, (0, 1)),), (), ()), ((0, 0), (0, 1), (1, 1)))
        check_judge(self, sums.is_sums_paper, {"book": CLIMB, "thing": paper})


if __name__ == "__main__":
    unittest.main()
