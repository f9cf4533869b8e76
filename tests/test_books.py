"""[4], and what [3] says of books: what books are, and what is made of them."""

import itertools
import unittest

from blendworlds import books
from tests.helper import MIXED, SMALL, UNLIKE, check_call, check_examples, check_refusal, some_books

EXAMPLES = """
    >>> unlike = (2, ((0, 1), (0, 2), (1, 0), (1, 2), (2, 0), (2, 1)))
    >>> book, small = (3, False, (unlike,)), (2, True, ((2, ((0, 0), (0, 1), (1, 1))), (1, ((1,),))))
    >>> is_book(book), is_kind(2, unlike), is_book((2, True, ())), is_book((0, True, ())), is_kind(2, (2, ((0, 1), (0, 0)))), is_turn(book, (2, 0, 1))
    (True, False, True, False, False, True)
    >>> with_kind(small, (1, ()))[2][2], without_kind(small, 0), with_row(small, 0, (1, 0))[2][0], without_row(small, 1, (1,))[2][1]
    ((1, ()), (2, True, ((1, ((1,),)),)), (2, ((0, 0), (0, 1), (1, 0), (1, 1))), (1, ()))
    >>> columns(small, 0), columns(small, 1), constants(small), constants(book), single_kinds(small)[2][2:], len(turns_of(book)), turns_of(small)
    (((0, 1), (0, 1)), ((1,),), (1,), (), ((1, ((0,),)), (1, ((1,),))), 6, [(0, 1)])
    >>> turned(small, (1, 0))[2], turns_into(small, turned(small, (1, 0))), without_values(book, (1,)), alike_values((3, False, ((1, ((0,), (2,))),)))
    (((2, ((0, 0), (1, 0), (1, 1))), (1, ((0,),))), [(1, 0)], (2, False, ((2, ((0, 1), (1, 0))),)), ((0, 2),))
    >>> without_row(small, 0, (1, 0))
    raises Unfit()
    >>> columns(small, 2)
    raises NoKind(number=2)
    >>> without_values(small, (0, 2))
    raises NoValue(number=2)
"""
BARE = (3, True, ())
EMPTY = (2, False, ((2, ()), (1, ())))
BOOKS = [UNLIKE, SMALL, MIXED, BARE, EMPTY, (1, True, ()), (1, False, ((1, ((0,),)),))] + some_books(11, 40)


def names():
    return {name: getattr(books, name) for name in vars(books) if not name.startswith("_")}


class ExamplesTest(unittest.TestCase):
    def test_examples(self):
        self.assertEqual(check_examples(self, EXAMPLES, names()), 7)


class KindsTest(unittest.TestCase):
    def test_with_kind_stands_behind_all(self):
        self.assertEqual(books.with_kind(SMALL, (1, ((0,),))), (2, True, SMALL[2] + ((1, ((0,),)),)))
        self.assertEqual(books.with_kind(SMALL, SMALL[2][0])[2], SMALL[2] + (SMALL[2][0],))
        self.assertEqual(books.with_kind(BARE, (3, ())), (3, True, ((3, ()),)))

    def test_without_kind_moves_those_behind(self):
        book = (2, False, ((1, ()), (2, ()), (3, ())))
        self.assertEqual(books.without_kind(book, 0), (2, False, ((2, ()), (3, ()))))
        self.assertEqual(books.without_kind(book, 1), (2, False, ((1, ()), (3, ()))))
        self.assertEqual(books.without_kind(book, 2), (2, False, ((1, ()), (2, ()))))

    def test_alike_kinds_are_told_by_their_numbers(self):
        twice = (2, False, ((1, ((0,),)), (1, ((0,),))))
        self.assertEqual(books.without_kind(twice, 1), (2, False, ((1, ((0,),)),)))
        self.assertEqual(books.with_row(twice, 1, (1,))[2], ((1, ((0,),)), (1, ((0,), (1,)))))

    def test_with_row_stays_a_set(self):
        self.assertEqual(books.with_row(SMALL, 0, (1, 0))[2][0], (2, ((0, 0), (0, 1), (1, 0), (1, 1))))
        self.assertEqual(books.with_row(SMALL, 0, (0, 1)), SMALL)
        self.assertEqual(books.with_row(EMPTY, 0, (1, 1)), (2, False, ((2, ((1, 1),)), (1, ()))))

    def test_without_row(self):
        self.assertEqual(books.without_row(SMALL, 0, (0, 1)), (2, True, ((2, ((0, 0), (1, 1))), (1, ((1,),)))))
        self.assertEqual(books.without_row(SMALL, 1, (1,))[2][1], (1, ()))

    def test_with_telling(self):
        self.assertEqual(books.with_telling(SMALL, False), (2, False, SMALL[2]))
        self.assertEqual(books.with_telling(SMALL, True), SMALL)
        self.assertIs(books.with_telling(EMPTY, True)[1], True)

    def test_columns(self):
        self.assertEqual(books.columns(MIXED, 0), ((0, 1, 2), (0, 1), (1, 2)))
        self.assertEqual(books.columns(MIXED, 2), ((0, 2),))
        self.assertEqual(books.columns(EMPTY, 0), ((), ()))

    def test_constants(self):
        self.assertEqual(books.constants(BARE), (0, 1, 2))
        self.assertEqual(books.constants(MIXED), ())
        self.assertEqual(books.constants(EMPTY), ())
        self.assertEqual(books.constants((2, False, ((2, ((0, 0), (1, 1))), (3, ((0, 0, 0),))))), (0,))

    def test_single_kinds(self):
        self.assertEqual(books.single_kinds(BARE), (3, False, ((1, ((0,),)), (1, ((1,),)), (1, ((2,),)))))
        self.assertEqual(books.single_kinds(EMPTY), EMPTY)
        self.assertEqual(books.single_kinds(SMALL)[2][:2], SMALL[2])


class TurnsTest(unittest.TestCase):
    def test_turned_value_by_value(self):
        book = (3, False, ((2, ((0, 1), (2, 2))),))
        self.assertEqual(books.turned(book, (1, 2, 0)), (3, False, ((2, ((0, 0), (1, 2))),)))
        self.assertEqual(books.turned(book, (0, 1, 2)), book)

    def test_turns_of_and_turns_into(self):
        for book in BOOKS:
            many, telling, kinds = book
            turns = list(itertools.permutations(range(many)))
            sets = [{tuple(row) for row in rows} for _, rows in kinds]
            same = [turn for turn in turns
                    if [{tuple(turn[value] for value in row) for row in rows} for rows in sets] == sets]
            self.assertEqual(books.turns_of(book), same)
            for turn in turns:
                other = books.turned(book, turn)
                self.assertTrue(books.is_book(other))
                self.assertIn(turn, books.turns_into(book, other))
                self.assertEqual(len(books.turns_into(book, other)), len(same))

    def test_turns_into_what_is_unlike(self):
        self.assertEqual(books.turns_into((2, True, ()), (3, True, ())), [])
        self.assertEqual(books.turns_into((3, True, ()), (2, True, ())), [])
        self.assertEqual(books.turns_into((2, True, ()), (2, False, ())), [])
        self.assertEqual(books.turns_into((2, True, ()), (2, True, ())), [(0, 1), (1, 0)])
        self.assertEqual(books.turns_into((2, True, ((1, ()),)), (2, True, ())), [])
        self.assertEqual(books.turns_into((2, True, ((1, ()),)), (2, True, ((2, ()),))), [])
        kinds = ((1, ((0,),)), (1, ((1,),)))
        self.assertEqual(books.turns_into((2, True, kinds), (2, True, kinds[::-1])), [(1, 0)])
        self.assertEqual(books.turns_into((2, True, (kinds[0], kinds[0])), (2, True, kinds)), [])


class ValuesTest(unittest.TestCase):
    def test_alike_values(self):
        for book in BOOKS:
            many, _, kinds = book
            expected = []
            for one, other in itertools.combinations(range(many), 2):
                swaps = [(row[:at] + (twin,) + row[at + 1:], rows) for _, rows in kinds for row in rows
                         for at in range(len(row)) if row[at] in (one, other) for twin in (one, other)]
                if all(swap in rows for swap, rows in swaps):
                    expected.append((one, other))
            self.assertEqual(books.alike_values(book), tuple(expected))

    def test_alike_values_of_what_has_no_rows(self):
        self.assertEqual(books.alike_values(BARE), ((0, 1), (0, 2), (1, 2)))
        self.assertEqual(books.alike_values(EMPTY), ((0, 1),))
        self.assertEqual(books.alike_values((1, True, ())), ())

    def test_alike_in_each_column_by_itself(self):
        likes = (2, False, ((2, ((0, 0), (1, 1))),))
        self.assertEqual(books.alike_values(likes), ())
        self.assertEqual(books.alike_values((2, False, ((2, ((0, 0), (0, 1))),))), ())
        self.assertEqual(books.alike_values((2, False, ((2, ((0, 0), (0, 1), (1, 0), (1, 1))),))), ((0, 1),))

    def test_alike_beside_a_third_value(self):
        self.assertEqual(books.alike_values((3, False, ((2, ((0, 2), (1, 2))),))), ((0, 1),))
        self.assertEqual(books.alike_values((3, False, ((2, ((0, 2), (1, 1))),))), ())
        self.assertEqual(books.alike_values((3, False, ((3, ((2, 0, 0), (2, 0, 1), (2, 1, 0), (2, 1, 1))),))), ((0, 1),))
        self.assertEqual(books.alike_values((3, False, ((3, ((2, 0, 0), (2, 1, 1))),))), ())

    def test_without_values(self):
        self.assertEqual(books.without_values(UNLIKE, ()), UNLIKE)
        self.assertEqual(books.without_values(UNLIKE, (0,)), (2, True, ((2, ((0, 1), (1, 0))),)))
        self.assertEqual(books.without_values(UNLIKE, (2, 0, 2)), (1, True, ((2, ()),)))
        self.assertEqual(books.without_values(MIXED, (1,)), (2, True, ((3, ((1, 0, 1),)), (2, ((0, 0),)), (1, ((0,), (1,))))))

    def test_made_books_are_books(self):
        for book in BOOKS:
            for value in range(book[0] if book[0] > 1 else 0):
                less = books.without_values(book, [value])
                self.assertTrue(books.is_book(less))
                self.assertEqual(less[0], book[0] - 1)
            self.assertTrue(books.is_book(books.single_kinds(book)))


class RefusalsTest(unittest.TestCase):
    def test_no_kind(self):
        for number in (-1, 2, 10 ** 30, -10 ** 30):
            text = f"NoKind(number={number})"
            check_refusal(self, text, books.without_kind, {"book": SMALL, "number": number})
            check_refusal(self, text, books.columns, {"book": SMALL, "number": number})
            check_refusal(self, text, books.with_row, {"book": SMALL, "number": number, "row": (0, 0)})
            check_refusal(self, text, books.without_row, {"book": SMALL, "number": number, "row": (0, 0)})
        check_refusal(self, "NoKind(number=0)", books.columns, {"book": BARE, "number": 0})

    def test_no_kind_goes_ahead_of_all_else(self):
        for function in (books.with_row, books.without_row):
            check_refusal(self, "NoKind(number=2)", function, {"book": SMALL, "number": 2, "row": (7, 8, 9)})
            check_refusal(self, "NoKind(number=-1)", function, {"book": SMALL, "number": -1, "row": ()})

    def test_no_value_is_the_first_one_and_ahead_of_unfit(self):
        for function in (books.with_row, books.without_row):
            check_refusal(self, "NoValue(number=2)", function, {"book": SMALL, "number": 0, "row": (0, 2)})
            check_refusal(self, "NoValue(number=-1)", function, {"book": SMALL, "number": 0, "row": (-1, 2)})
            check_refusal(self, "NoValue(number=5)", function, {"book": SMALL, "number": 1, "row": (1, 5, 4)})
        big = 10 ** 30
        check_refusal(self, f"NoValue(number={big})", books.without_values, {"book": SMALL, "values": (0, 1, big)})
        check_refusal(self, "NoValue(number=-3)", books.without_values, {"book": SMALL, "values": (-3, 0, 9, 1)})

    def test_unfit(self):
        for row in ((), (0,), (0, 0, 0)):
            check_refusal(self, "Unfit()", books.with_row, {"book": SMALL, "number": 0, "row": row})
            check_refusal(self, "Unfit()", books.without_row, {"book": SMALL, "number": 0, "row": row})
        check_refusal(self, "Unfit()", books.without_row, {"book": SMALL, "number": 0, "row": (1, 0)})
        check_refusal(self, "Unfit()", books.without_row, {"book": EMPTY, "number": 1, "row": (1,)})
        check_refusal(self, "Unfit()", books.without_values, {"book": SMALL, "values": (1, 0)})
        check_refusal(self, "Unfit()", books.without_values, {"book": (1, True, ()), "values": (0, 0)})


class FormsTest(unittest.TestCase):
    def test_calls_in_all_forms(self):
        calls = [
            (books.with_kind, {"book": SMALL, "kind": (2, ((0, 1),))}),
            (books.without_kind, {"book": SMALL, "number": 1}),
            (books.with_row, {"book": SMALL, "number": 0, "row": (1, 0)}),
            (books.without_row, {"book": SMALL, "number": 0, "row": (0, 1)}),
            (books.with_telling, {"book": SMALL, "telling": False}),
            (books.columns, {"book": SMALL, "number": 0}),
            (books.constants, {"book": SMALL}),
            (books.single_kinds, {"book": SMALL}),
            (books.single_kinds, {"book": EMPTY}),
            (books.turned, {"book": UNLIKE, "turn": (1, 2, 0)}),
            (books.turns_into, {"book": UNLIKE, "other": UNLIKE}),
            (books.turns_of, {"book": MIXED}),
            (books.alike_values, {"book": EMPTY}),
            (books.without_values, {"book": MIXED, "values": (2, 0)}),
        ]
        for function, named in calls:
            with self.subTest(function=function.__name__):
                check_call(self, function, named)
        check_call(self, books.is_turn, {"book": UNLIKE, "thing": (1, 2, 0)}, ("thing",))
        check_call(self, books.is_kind, {"many": 2, "thing": SMALL[2][0]}, ("thing",))
        check_call(self, books.is_book, {"thing": SMALL}, ("thing",))


if __name__ == "__main__":
    unittest.main()
