"""[6], and what [3] says of blends and free puzzles."""

import itertools
import random
import unittest

from blendworlds import blends, puzzles
from tests.helper import MIXED, SMALL, UNLIKE, all_settings, check_call, check_examples, check_judge, check_refusal, some_books, some_puzzles
from tests.plain import all_blends, all_tuples, keeps_a_book, keeps_a_kind, makes

EXAMPLES = """
    >>> book = (2, False, ((2, ((0, 0), (0, 1), (1, 0))),))
    >>> least, most = (0, 0, 0, 1), (0, 1, 1, 1)
    >>> tuples_of(book, 2), place_of(book, (1, 0)), projections(book, 2), blend_at(book, 2, least, (1, 0)), blended(book, 2, least, ((0, 1, 1), (1, 1, 0)))
    ([(0, 0), (0, 1), (1, 0), (1, 1)], 2, [(0, 0, 1, 1), (0, 1, 0, 1)], 0, (0, 1, 0))
    >>> free_puzzle(book, 1), free_puzzle((2, True, ()), 2)
    ((2, ((0, (0, 0)), (0, (0, 1)), (0, (1, 0))), (), ()), (4, (), ((0, 0), (3, 1)), ()))
    >>> keeps_kind(book, 2, least, 0), is_keeping(book, 2, most), broken_rows(book, 2, most, 0), broken_rows(book, 2, least, 0), is_broken(book, 2, most, 0, ((1, 0), (0, 1)))
    (True, False, ((0, 1), (1, 0)), None, True)
    >>> blends(book, 1), how_many_blends(book, 2), a_blend(book, 2, (((0, 1), 1), ((1, 0), 1))), a_blend(book, 2, (((0, 1), 0), ((1, 0), 0), ((1, 1), 1)))
    ([(0, 0), (0, 1)], 6, None, (0, 0, 0, 1))
    >>> put_behind(book, 2, least, 2, ((0, 0, 1, 1), (0, 1, 0, 1))), put_behind(book, 2, least, 1, ((0, 1), (0, 0))), felt_by(book, 2, (0, 0, 1, 1)), turned_blend(book, 2, least, (1, 0))
    ((0, 0, 0, 1), (0, 0), (0,), (0, 1, 1, 1))
    >>> keeps_kind(book, 2, least, 1)
    raises NoKind(number=1)
"""
BARE = (3, True, ())
EMPTY = (2, False, ((2, ()), (1, ())))
ALONE = (1, True, ((1, ((0,),)), (2, ())))
BOOKS = [UNLIKE, SMALL, MIXED, BARE, EMPTY, ALONE, (1, False, ()), (2, True, ()), (2, False, SMALL[2])] + some_books(31, 50)
LEAST, MOST, MIDDLE = (0, 0, 0, 1), (0, 1, 1, 1), (0, 0, 0, 1, 0, 1, 1, 1)


def lengths(book):
    """The k within the bounds of which all blends can be gone through."""
    return (1, 2, 3) if book[0] < 3 else (1,)


def some_blends(dice, book, k, many):
    """As many blends, some of which keep the book."""
    found = [tuple(dice.randrange(book[0]) for _ in range(book[0] ** k)) for _ in range(many)]
    known = blends.blends(book, k) if k in lengths(book) else [blends.a_blend(book, k, ())]
    return found + dice.sample(known, min(3, len(known))) + blends.projections(book, k)


class ExamplesTest(unittest.TestCase):
    def test_examples(self):
        names = {name: part for name, part in vars(blends).items() if not name.startswith("_")}
        self.assertEqual(check_examples(self, EXAMPLES, names), 6)


class TuplesTest(unittest.TestCase):
    def test_tuples_and_their_places(self):
        for book in (ALONE, SMALL, UNLIKE):
            for k in (1, 2, 3):
                found = blends.tuples_of(book, k)
                self.assertEqual(found, all_tuples(book[0], k))
                self.assertEqual([blends.place_of(book, values) for values in found], list(range(len(found))))

    def test_places_of_tuples_of_any_length(self):
        self.assertEqual(blends.place_of(UNLIKE, ()), 0)
        self.assertEqual(blends.place_of(UNLIKE, (2, 0, 1, 1)), 2 * 27 + 3 + 1)
        self.assertEqual(blends.place_of(SMALL, (1,) * 70), 2 ** 70 - 1)
        self.assertEqual(blends.place_of(ALONE, (0,) * 9), 0)

    def test_projections(self):
        for book in (ALONE, SMALL, UNLIKE):
            for k in (1, 2, 3):
                expected = [tuple(values[at] for values in all_tuples(book[0], k)) for at in range(k)]
                self.assertEqual(blends.projections(book, k), expected)

    def test_projections_keep_each_book(self):
        for book in BOOKS:
            for k in (1, 2, 3) if book[0] < 3 else (1, 2):
                for blend in blends.projections(book, k):
                    self.assertIs(blends.is_keeping(book, k, blend), True)

    def test_what_blends_make(self):
        dice = random.Random(3)
        for book in BOOKS:
            for k in (1, 2, 3) if book[0] < 3 else (1, 2):
                blend = tuple(dice.randrange(book[0]) for _ in range(book[0] ** k))
                table = dict(zip(all_tuples(book[0], k), blend))
                for values, value in table.items():
                    self.assertEqual(blends.blend_at(book, k, blend, values), value)
                rows = tuple(tuple(dice.randrange(book[0]) for _ in range(5)) for _ in range(k))
                self.assertEqual(blends.blended(book, k, blend, rows), tuple(table[column] for column in zip(*rows)))
                self.assertEqual(blends.blended(book, k, blend, ((),) * k), ())


class FreePuzzleTest(unittest.TestCase):
    def test_as_it_is_described(self):
        for book in BOOKS:
            for k in (1, 2, 3) if book[0] < 3 else (1, 2):
                places = all_tuples(book[0], k)
                ties = {(number, tuple(places.index(column) for column in zip(*chosen)))
                        for number, (_, rows) in enumerate(book[2]) for chosen in itertools.product(rows, repeat=k)}
                told = [(places.index((value,) * k), value) for value in range(book[0]) if book[1]]
                free = blends.free_puzzle(book, k)
                self.assertEqual(free, (len(places), tuple(sorted(ties)), tuple(told), ()))
                self.assertIs(puzzles.is_puzzle(book, free), True)

    def test_its_settings_are_the_blends_that_keep_the_book(self):
        for book in BOOKS:
            for k in lengths(book):
                expected = all_blends(book, k)
                self.assertEqual(all_settings(book, blends.free_puzzle(book, k)), expected, (book, k))
                self.assertEqual(blends.blends(book, k), expected, (book, k))
                self.assertEqual(blends.how_many_blends(book, k), len(expected), (book, k))
                self.assertEqual([blend for blend in all_tuples(book[0], book[0] ** k) if blends.is_keeping(book, k, blend)],
                                 expected, (book, k))

    def test_blends_of_two_of_three_values(self):
        for book in (UNLIKE, (3, False, ((2, ((0, 0), (0, 1), (1, 1), (1, 2), (2, 2))), (1, ((0,), (2,)))))):
            expected = all_blends(book, 2)
            self.assertEqual(puzzles.settings(book, blends.free_puzzle(book, 2)), expected)

    def test_books_of_four_values(self):
        book = (4, False, ((2, ((0, 2), (0, 3), (1, 2), (1, 3), (2, 0), (2, 1), (3, 0), (3, 1))),))
        self.assertEqual(blends.blends(book, 1), all_blends(book, 1))
        self.assertIs(blends.is_keeping(book, 2, blends.a_blend(book, 2, (((0, 1), 1), ((2, 0), 3)))), True)


class KeepingTest(unittest.TestCase):
    def test_each_kind(self):
        dice = random.Random(8)
        for book in BOOKS:
            for k in (1, 2, 3) if book[0] < 3 else (1, 2):
                for blend in some_blends(dice, book, k, 3):
                    for number, (_, rows) in enumerate(book[2]):
                        broken = [chosen for chosen in itertools.product(rows, repeat=k)
                                  if makes(book, blend, chosen) not in rows]
                        self.assertIs(blends.keeps_kind(book, k, blend, number), keeps_a_kind(book, k, blend, number))
                        self.assertEqual(blends.broken_rows(book, k, blend, number), min(broken, default=None))
                        for chosen in itertools.islice(itertools.product(rows, repeat=k), 20):
                            self.assertIs(blends.is_broken(book, k, blend, number, chosen), chosen in broken)
                    self.assertIs(blends.is_keeping(book, k, blend), keeps_a_book(book, k, blend))

    def test_a_kind_without_rows_is_kept(self):
        for blend in all_tuples(2, 4):
            self.assertIs(blends.keeps_kind(EMPTY, 2, blend, 0), True)
            self.assertIsNone(blends.broken_rows(EMPTY, 2, blend, 1))
            self.assertIs(blends.is_broken(EMPTY, 2, blend, 1, ((0,), (0,))), False)

    def test_telling_wants_alike_values_made_of_alike_ones(self):
        self.assertIs(blends.is_keeping((2, False, ()), 2, (1, 0, 0, 1)), True)
        self.assertIs(blends.is_keeping((2, True, ()), 2, (1, 0, 0, 1)), False)
        self.assertIs(blends.is_keeping((2, True, ()), 2, (0, 1, 0, 1)), True)
        self.assertEqual(blends.how_many_blends((3, True, ()), 1), 1)
        self.assertEqual(blends.how_many_blends((3, False, ()), 1), 27)
        self.assertEqual(blends.how_many_blends((2, True, ()), 3), 64)
        self.assertEqual(blends.how_many_blends((1, True, ()), 3), 1)

    def test_what_blends_make_of_settings(self):
        dice = random.Random(19)
        for book, puzzle in some_puzzles(41, 60):
            settings = all_settings(book, puzzle)
            for k in (1, 2) if settings else ():
                for blend in some_blends(dice, book, k, 0):
                    if keeps_a_book(book, k, blend):
                        for rows in itertools.islice(itertools.product(settings, repeat=k), 50):
                            self.assertIn(blends.blended(book, k, blend, rows), settings)

    def test_what_breaks_a_book_breaks_a_puzzle(self):
        for book in BOOKS:
            for number, (width, _) in enumerate(book[2]):
                puzzle = (width, ((number, tuple(range(width))),), (), ())
                for blend in all_tuples(2, 4) if book[0] == 2 else ():
                    rows = blends.broken_rows(book, 2, blend, number)
                    if rows is not None:
                        self.assertTrue(all(puzzles.is_setting(book, puzzle, row) for row in rows))
                        self.assertFalse(puzzles.is_setting(book, puzzle, blends.blended(book, 2, blend, rows)))


class OneBlendTest(unittest.TestCase):
    def test_a_blend_that_makes_what_is_told(self):
        dice = random.Random(5)
        for book in BOOKS:
            for k in lengths(book):
                known = all_blends(book, k)
                for many in (0, 1, 2, 3):
                    told = tuple((dice.choice(all_tuples(book[0], k)), dice.randrange(book[0])) for _ in range(many))
                    fitting = [blend for blend in known
                               if all(makes(book, blend, [[value] for value in values]) == (value_made,)
                                      for values, value_made in told)]
                    found = blends.a_blend(book, k, told)
                    if fitting:
                        self.assertIn(found, fitting)
                    else:
                        self.assertIsNone(found)

    def test_of_two_of_three_values(self):
        for book in (UNLIKE, BARE, MIXED, (3, False, UNLIKE[2])):
            for told in ((), (((0, 1), 2),), (((0, 1), 0), ((1, 0), 1)), (((0, 0), 0), ((1, 1), 1), ((2, 2), 2), ((0, 1), 1))):
                found = blends.a_blend(book, 2, told)
                fitting = [blend for blend in all_blends(book, 2)
                           if all(blend[all_tuples(3, 2).index(values)] == value for values, value in told)]
                self.assertTrue(found in fitting if fitting else found is None)

    def test_told_twice(self):
        self.assertIsNone(blends.a_blend((2, False, ()), 1, (((0,), 0), ((0,), 1))))
        self.assertEqual(blends.a_blend((2, False, ()), 1, (((0,), 1), ((0,), 1), ((1,), 0))), (1, 0))
        self.assertIsNone(blends.a_blend((2, True, ()), 2, (((1, 1), 0),)))

    def test_put_behind(self):
        dice = random.Random(9)
        for book in BOOKS:
            for k, many in itertools.product((1, 2, 3) if book[0] < 3 else (1, 2), repeat=2):
                blend = dice.choice(some_blends(dice, book, k, 3))
                others = tuple(dice.choice(some_blends(dice, book, many, 3)) for _ in range(k))
                found = blends.put_behind(book, k, blend, many, others)
                self.assertIs(blends.is_blend(book, many, found), True)
                for values in all_tuples(book[0], many):
                    inner = tuple(blends.blend_at(book, many, other, values) for other in others)
                    self.assertEqual(blends.blend_at(book, many, found, values), blends.blend_at(book, k, blend, inner))
                if keeps_a_book(book, k, blend) and all(keeps_a_book(book, many, other) for other in others):
                    self.assertIs(blends.is_keeping(book, many, found), True)

    def test_felt_by(self):
        for many, k in ((1, 3), (2, 1), (2, 2), (3, 1)):
            for blend in all_tuples(many, many ** k):
                table = dict(zip(all_tuples(many, k), blend))
                expected = {at for one, other in itertools.product(table, repeat=2) for at in range(k)
                            if table[one] != table[other] and one[:at] + one[at + 1:] == other[:at] + other[at + 1:]}
                self.assertEqual(blends.felt_by((many, False, ()), k, blend), tuple(sorted(expected)))
        self.assertEqual(blends.felt_by(SMALL, 3, MIDDLE), (0, 1, 2))
        self.assertEqual(blends.felt_by(SMALL, 3, (0, 1, 0, 1, 1, 0, 1, 0)), (0, 2))
        self.assertEqual(blends.felt_by(UNLIKE, 2, (0, 1, 2) * 3), (1,))
        self.assertEqual(blends.felt_by(UNLIKE, 2, (2,) * 9), ())

    def test_turned_blend(self):
        dice = random.Random(4)
        for many, k in ((1, 2), (2, 1), (2, 2), (2, 3), (3, 1), (3, 2)):
            book = (many, False, ())
            for turn in itertools.permutations(range(many)):
                blend = tuple(dice.randrange(many) for _ in range(many ** k))
                found = blends.turned_blend(book, k, blend, turn)
                for values in all_tuples(many, k):
                    turned = tuple(turn[value] for value in values)
                    made = blends.blend_at(book, k, blend, values)
                    self.assertEqual(blends.blend_at(book, k, found, turned), turn[made])
        self.assertEqual(blends.turned_blend(UNLIKE, 1, (0, 0, 1), (1, 2, 0)), (2, 1, 1))


class RefusalsTest(unittest.TestCase):
    def test_no_kind(self):
        for number in (-1, 2, 10 ** 30, -10 ** 30):
            named = {"book": SMALL, "k": 2, "blend": MOST, "number": number}
            text = f"NoKind(number={number})"
            check_refusal(self, text, blends.keeps_kind, named)
            check_refusal(self, text, blends.broken_rows, named)
            for thing in (None, ((0, 0), (0, 1)), "x"):
                check_refusal(self, text, blends.is_broken, {**named, "thing": thing})
        check_refusal(self, "NoKind(number=0)", blends.keeps_kind, {"book": BARE, "k": 1, "blend": (0, 1, 2), "number": 0})

    def test_rows_that_are_not_k_or_not_of_one_length(self):
        for rows in ((), ((0, 1),), ((0, 1), (1, 0), (1, 1)), ((0,), (0, 1)), ((0, 1), ()), ((), (1,)), ((), (), ())):
            check_refusal(self, "Unfit()", blends.blended, {"book": SMALL, "k": 2, "blend": LEAST, "rows": rows})
        check_refusal(self, "Unfit()", blends.blended, {"book": SMALL, "k": 3, "blend": MIDDLE, "rows": ((0,), (1,), (1, 1))})

    def test_others_that_are_not_k(self):
        for others in ((), ((0, 1),), ((0, 1),) * 3):
            named = {"book": SMALL, "k": 2, "blend": LEAST, "many": 1, "others": others}
            check_refusal(self, "Unfit()", blends.put_behind, named)


class FormsTest(unittest.TestCase):
    def test_calls_in_all_forms(self):
        given = {"book": SMALL, "k": 2, "blend": MOST}
        calls = [
            (blends.tuples_of, {"book": SMALL, "k": 2}),
            (blends.place_of, {"book": SMALL, "values": (1, 0)}),
            (blends.projections, {"book": SMALL, "k": 2}),
            (blends.blend_at, {**given, "values": (1, 0)}),
            (blends.blended, {**given, "rows": ((0, 1, 1), (1, 0, 1))}),
            (blends.free_puzzle, {"book": SMALL, "k": 2}),
            (blends.keeps_kind, {**given, "number": 0}),
            (blends.broken_rows, {"book": UNLIKE, "k": 1, "blend": (0, 1, 1), "number": 0}),
            (blends.broken_rows, {**given, "number": 0}),
            (blends.is_keeping, given),
            (blends.a_blend, {"book": SMALL, "k": 2, "told": (((0, 1), 1),)}),
            (blends.a_blend, {"book": SMALL, "k": 2, "told": (((0, 0), 1),)}),
            (blends.blends, {"book": SMALL, "k": 2}),
            (blends.how_many_blends, {"book": SMALL, "k": 3}),
            (blends.put_behind, {**given, "many": 1, "others": ((0, 1), (1, 1))}),
            (blends.felt_by, given),
            (blends.turned_blend, {**given, "turn": (1, 0)}),
        ]
        for function, named in calls:
            with self.subTest(function=function.__name__):
                check_call(self, function, named)
        check_judge(self, blends.is_blend, {"book": SMALL, "k": 2, "thing": MOST})
        check_judge(self, blends.is_broken, {"book": SMALL, "k": 2, "blend": (0, 1, 0, 0), "number": 1, "thing": ((1,), (1,))})


if __name__ == "__main__":
    unittest.main()
