"""[19]: books, puzzles and settings as texts, and read again."""

import random
import unittest

from blendworlds import texts
from tests.helper import LINE, MIXED, SMALL, UNLIKE, all_settings, check_call, check_examples, check_refusal, some_books, some_puzzles
from tests.plain import all_tuples

EXAMPLES = r"""
    >>> book = (2, True, ((2, ((0, 1), (1, 0))), (1, ())))
    >>> book_text(book), read_book("book 3\nkind 1 : 2 0 2"), read_book(book_text(book)) == book
    ('book 2 telling\nkind 2 : 01 10\nkind 1\n', (3, False, ((1, ((0,), (2,))),)), True)
    >>> puzzle = (3, ((0, (0, 1)), (0, (1, 2))), ((2, 1),), (0, 0))
    >>> puzzle_text(puzzle), read_puzzle(book, puzzle_text(puzzle)) == puzzle, read_puzzle(book, "puzzle 2\ntie 0 : 1 0\ntie 0 : 1 0\n")
    ('puzzle 3\ntie 0 : 0 1\ntie 0 : 1 2\ntell 2 1\nshow 0 0\n', True, (2, ((0, (1, 0)),), (), ()))
    >>> row_text((0, 1, 1)), row_text(()), read_row(book, "010"), settings_text(((1, 0, 1),)), read_settings(book, puzzle, "101\n")
    ('011', '-', (0, 1, 0), '101\n', ((1, 0, 1),))
    >>> read_row(book, "012")
    raises BadText(piece='012')
    >>> read_puzzle(book, "puzzle 2\ntell 0 1\ntie 0 : 0 1")
    raises BadLine(number=2)
    >>> read_book("book 2\nkind 2 : 01 1")
    raises BadLine(number=1)
    >>> read_settings(book, puzzle, "101\n010")
    raises BadLine(number=1)
"""
BOOK, PUZZLE = (2, True, ((2, ((0, 1), (1, 0))), (1, ()))), (3, ((0, (0, 1)), (0, (1, 2))), ((2, 1),), (0, 0))
QUIET, TEN, NOTHING = (3, False, UNLIKE[2]), (10, False, ((3, ((0, 9, 1), (9, 9, 9))), (1, ((7,),)))), (0, (), (), ())
BOOKS = [BOOK, QUIET, TEN, SMALL, UNLIKE, MIXED, (1, True, ()), (1, False, ((1, ()),)), (10, True, ())] + some_books(191, 80)
PAIRS = [(BOOK, PUZZLE), (UNLIKE, LINE), (BOOK, NOTHING), (TEN, (4, ((0, (3, 0, 0)), (1, (2,))), (), (1, 3))), (BOOK, (12, (), ((11, 0),), (10, 11)))]
PAIRS += some_puzzles(192, 120)


class ExamplesTest(unittest.TestCase):
    def test_examples(self):
        names = {name: part for name, part in vars(texts).items() if not name.startswith("_")}
        self.assertEqual(check_examples(self, EXAMPLES, names), 7)


class RowsTest(unittest.TestCase):
    def test_rows(self):
        for book in ((1, True, ()), BOOK, QUIET, TEN):
            for length in range(4):
                for row in all_tuples(min(book[0], 4), length):
                    text = "".join(map(str, row)) or "-"
                    self.assertEqual(texts.row_text(row), text)
                    self.assertEqual(texts.read_row(book, text), row)
        self.assertEqual(texts.read_row(TEN, "0917"), (0, 9, 1, 7))
        self.assertEqual(texts.read_row(BOOK, "01" * 200), (0, 1) * 200)

    def test_wrong_rows(self):
        for text in ("", "2", "012", "--", "-0", "0-", " ", "0 1", "01 ", " 01", "a", "0a", "+1", "0\n", "1,0", ":"):
            check_refusal(self, f"BadText(piece={text!r})", texts.read_row, {"book": BOOK, "text": text})


class BooksTest(unittest.TestCase):
    def test_books_are_read_back(self):
        for book in BOOKS:
            text = texts.book_text(book)
            lines = [f"book {book[0]}" + " telling" * book[1]]
            for width, rows in book[2]:
                lines.append(" ".join([f"kind {width}"] + [":"] * bool(rows) + ["".join(map(str, row)) for row in rows]))
            self.assertEqual(text, "".join(line + "\n" for line in lines))
            self.assertEqual(texts.read_book(text), book)
            self.assertEqual(texts.read_book(text[:-1]), book)

    def test_rows_in_another_order_and_again(self):
        dice = random.Random(193)
        for book in BOOKS:
            lines = texts.book_text(book).splitlines()
            for at, (_, rows) in enumerate(book[2]):
                words = ["".join(map(str, row)) for row in rows] * 2
                dice.shuffle(words)
                lines[at + 1] = lines[at + 1].partition(" :")[0] + "".join([" :"] * bool(words) + [" " + word for word in words])
            self.assertEqual(texts.read_book("\n".join(lines)), book)

    def test_wrong_first_lines(self):
        for line in ("", "book", "book ", "book 0", "book 11", "book 02", "book +2", "book -1", "book 2 ", " book 2", "book  2", "book 2 tell",
                     "book 2 telling ", "book 2 telling telling", "book 2  telling", "Book 2", "book two", "kind 1", "puzzle 2", "book 2:", "book 99999"):
            for text in (line, line + "\n", line + "\nkind 1", line + "\nwrong"):
                check_refusal(self, "BadLine(number=0)", texts.read_book, {"text": text})
        check_refusal(self, "BadLine(number=0)", texts.read_book, {"text": "\nbook 2"})

    def test_wrong_lines(self):
        good = ["book 2 telling", "kind 2 : 01 10", "kind 1", "kind 3 : 111"]
        self.assertEqual(texts.read_book("\n".join(good)), (2, True, ((2, ((0, 1), (1, 0))), (1, ()), (3, ((1, 1, 1),)))))
        wrong = ("", " ", "kind", "kind ", "kind 0", "kind 4 : 0000", "kind 01 : 0", "kind 1 :", "kind 1 : ", "kind 1 : 2", "kind 1 : 00", "kind 2 : 01 1",
                 "kind 2 : 01  10", "kind 2 :  01", "kind 2  : 01", "kind 2: 01", "kind 2 01", "kind 2 : 01 ", " kind 1", "kind 1 ", "kind 1 : -",
                 "kind 2 : 0a", "kind 2 : 0,1", "book 2", "Kind 1", "tie 0 : 0", "kind 1 : 0 :", "kind -1 : 0", "kind 1 : +1")
        for line in wrong:
            for at in range(1, 4):
                text = "\n".join(good[:at] + [line] + good[at:])
                check_refusal(self, f"BadLine(number={at})", texts.read_book, {"text": text})
                check_refusal(self, f"BadLine(number={at})", texts.read_book, {"text": text + "\nwrong\n"})
            check_refusal(self, "BadLine(number=4)", texts.read_book, {"text": "\n".join(good + [line]) + "\n"})

    def test_breaks(self):
        self.assertEqual(texts.read_book("book 2"), (2, False, ()))
        self.assertEqual(texts.read_book("book 2\n"), (2, False, ()))
        check_refusal(self, "BadLine(number=1)", texts.read_book, {"text": "book 2\n\n"})
        check_refusal(self, "BadLine(number=0)", texts.read_book, {"text": ""})
        check_refusal(self, "BadLine(number=0)", texts.read_book, {"text": "\n"})


class PuzzlesTest(unittest.TestCase):
    def test_puzzles_are_read_back(self):
        for book, puzzle in PAIRS:
            lines = [f"puzzle {puzzle[0]}"] + ["tie " + " ".join(map(str, (number, ":", *spots))) for number, spots in puzzle[1]]
            lines += [f"tell {place} {value}" for place, value in puzzle[2]]
            lines += ["show " + " ".join(map(str, puzzle[3]))] if puzzle[3] else []
            text = texts.puzzle_text(puzzle)
            self.assertEqual(text, "".join(line + "\n" for line in lines))
            self.assertEqual(texts.read_puzzle(book, text), puzzle)
            self.assertEqual(texts.read_puzzle(book, text[:-1]), puzzle)

    def test_ties_and_told_places_in_another_order(self):
        dice = random.Random(194)
        for book, puzzle in PAIRS:
            lines = texts.puzzle_text(puzzle).splitlines()
            ties = [line for line in lines if line.startswith("tie")] * 2
            told = [line for line in lines if line.startswith("tell")]
            dice.shuffle(ties)
            dice.shuffle(told)
            rest = [line for line in lines if line.startswith("show")]
            self.assertEqual(texts.read_puzzle(book, "\n".join(lines[:1] + ties + told + rest)), puzzle)

    def test_wrong_lines(self):
        good = ["puzzle 3", "tie 0 : 0 1", "tie 1 : 2", "tell 2 1", "tell 0 0", "show 0 0 2"]
        self.assertEqual(texts.read_puzzle(BOOK, "\n".join(good)), (3, ((0, (0, 1)), (1, (2,))), ((0, 0), (2, 1)), (0, 0, 2)))
        anywhere = ("", " ", "puzzle 3", "tie", "tie 0", "tie 0 :", "tie 0 : ", "tie 0 0 1", "tie 0 : 0", "tie 0 : 0 1 2", "tie 0 : 0 3", "tie 2 : 0 1",
                    "tie 00 : 0 1", "tie 0 : 0 01", "tie 0 : 0  1", "tie 0 :0 1", "tie 0: 0 1", "tie 0 : 0 1 ", " tie 0 : 0 1", "tie -1 : 0 1", "tie 0 : 0 -1",
                    "Tie 0 : 0 1", "tie 1 : 0 1", "tie 0 : a b", "tell", "tell 1", "tell 1 2", "tell 3 0", "tell 1 0 0", "tell 1  0", "tell 1 0 ", "tell 01 0",
                    "tell 1 00", "tell +1 0", "tell : 1 0", "show", "show ", "show 3", "show 0 3", "show 0  1", "show 0 1 ", "show -", "show 00", "kind 1",
                    "show : 0", "untell 0", "put 0 1", "tie 0 : 9999999999999999999999 0")
        for line in anywhere:
            for at in range(1, len(good) + 1):
                for end in ("", "\n", "\nwrong"):
                    text = "\n".join(good[:at] + [line] + good[at:]) + end
                    if line or end or at < len(good):
                        check_refusal(self, f"BadLine(number={at})", texts.read_puzzle, {"book": BOOK, "text": text})
        self.assertEqual(texts.read_puzzle(BOOK, "\n".join(good) + "\n"), texts.read_puzzle(BOOK, "\n".join(good)))

    def test_lines_behind_others(self):
        for ahead, line in (("tell 0 1", "tie 0 : 0 1"), ("show 0", "tie 0 : 0 1"), ("show 0", "tell 0 1"), ("show 0", "show 0"), ("show 0", "show 1"),
                            ("tell 0 1", "tell 0 1"), ("tell 0 1", "tell 0 0"), ("tie 0 : 0 1", "puzzle 2")):
            for more in ("", "\n", "\nwrong"):
                check_refusal(self, "BadLine(number=2)", texts.read_puzzle, {"book": BOOK, "text": f"puzzle 2\n{ahead}\n{line}{more}"})
        self.assertEqual(texts.read_puzzle(BOOK, "puzzle 2\nshow 1 0"), (2, (), (), (1, 0)))

    def test_wrong_first_lines(self):
        for line in ("", "puzzle", "puzzle ", "puzzle -1", "puzzle 01", "puzzle 2 2", "puzzle  2", " puzzle 2", "puzzle 2 ", "book 2", "puzzle x", "Puzzle 2"):
            for text in (line, line + "\n", line + "\ntie 0 : 0 1", line + "\nwrong"):
                check_refusal(self, "BadLine(number=0)", texts.read_puzzle, {"book": BOOK, "text": text})
        self.assertEqual(texts.read_puzzle(BOOK, "puzzle 0"), NOTHING)

    def test_a_book_that_is_not_telling(self):
        check_refusal(self, "BadLine(number=1)", texts.read_puzzle, {"book": QUIET, "text": "puzzle 2\ntell 0 1\ntell 0 1"})
        self.assertEqual(texts.read_puzzle(QUIET, "puzzle 2\ntie 0 : 1 1"), (2, ((0, (1, 1)),), (), ()))


class SettingsTest(unittest.TestCase):
    def test_settings_are_read_back(self):
        for book, puzzle in PAIRS:
            rows = tuple(all_settings(book, puzzle)) if book[0] ** puzzle[0] < 1000 else ()
            for given in (rows, rows[::-1], rows[:1] * 3, ()):
                text = texts.settings_text(given)
                self.assertEqual(text, "".join(("".join(map(str, row)) or "-") + "\n" for row in given))
                self.assertEqual(texts.read_settings(book, puzzle, text), given)
                if given:
                    self.assertEqual(texts.read_settings(book, puzzle, text[:-1]), given)

    def test_wrong_lines(self):
        good = ["101", "101"]
        for line in ("", "010", "100", "10", "1011", "-", "10a", " 101", "101 ", "1 0 1", "121", "201"):
            for at in range(3):
                for end in ("", "\n", "\nwrong"):
                    text = "\n".join(good[:at] + [line] + good[at:]) + end
                    if line or end or at < 2:
                        named = {"book": BOOK, "puzzle": PUZZLE, "text": text}
                        check_refusal(self, f"BadLine(number={at})", texts.read_settings, named)

    def test_no_places(self):
        self.assertEqual(texts.read_settings(BOOK, NOTHING, "-\n-"), ((), ()))
        self.assertEqual(texts.read_settings(BOOK, NOTHING, ""), ())
        check_refusal(self, "BadLine(number=0)", texts.read_settings, {"book": BOOK, "puzzle": NOTHING, "text": "\n"})
        check_refusal(self, "BadLine(number=0)", texts.read_settings, {"book": BOOK, "puzzle": (1, ((1, (0,)),), (), ()), "text": "0"})


class CallsTest(unittest.TestCase):
    def test_calls(self):
        check_call(self, texts.row_text, {"row": (0, 1, 1)})
        check_call(self, texts.read_row, {"book": BOOK, "text": "010"})
        check_call(self, texts.book_text, {"book": BOOK})
        check_call(self, texts.read_book, {"text": texts.book_text(MIXED)})
        check_call(self, texts.puzzle_text, {"puzzle": PUZZLE})
        check_call(self, texts.read_puzzle, {"book": BOOK, "text": texts.puzzle_text(PUZZLE)})
        check_call(self, texts.settings_text, {"rows": ((1, 0, 1), ())})
        check_call(self, texts.read_settings, {"book": BOOK, "puzzle": PUZZLE, "text": "101\n"})


if __name__ == "__main__":
    unittest.main()
