"""[20]: requests in lines, and the replies to them."""

import random
import unittest

from blendworlds import desk
from blendworlds.board import Board
from blendworlds.errors import CanNot
from tests.helper import UNLIKE, check_call, check_examples, check_refusal, listed
from tests.test_board import ALONE, BOOK, BOOKS, QUIET, Plain, a_deed, agreeing, check_told
from tests.test_things import HUGE, ODD, Checked

EXAMPLES = r"""
    >>> book = (2, True, ((2, ((0, 1), (1, 0))),))
    >>> replies(book, 3, "tie 0 : 0 1\ntie 0 : 1 2\ncount\nput 0 1\nsure\nhints\nchanged\nput 2 0\nwrong\nput 1 0\nbroken\nsolved\nclear 2\ntell 2 1\nsolved\nsets\ntold\ndeeds")
    ['done', 'done', '2', 'done', '1=0 2=1', '-', '0 1 2', 'done', '0', 'done', '0:1.2', 'no', 'done', 'done', 'yes', '0=1 1=0', '2=1', '7']
    >>> replies(book, 2, "kind 3 : 100 001 010 001\nkinds\ntie 1 : 0 0 1\nties\nunkind 0\nkinds\nties\ncount\nsure\nshow 1 1\nshown\nundo\nshown\nmore\nplaces\nkind 1\nunkind 0")
    ['done', 'kind 2 : 01 10 / kind 3 : 001 010 100', 'done', '1:0.0.1', 'done', 'kind 3 : 001 010 100', '0:0.0.1', '1', '0=0 1=1', 'done', '1 1', 'done', '-', 'done', '3', 'done', 'refused Unfit']
    >>> replies(book, 1, "undo\ntie 1 : 0 0\ntie 0 : 0 7\ntie 0 : 0\nuntie 0 : 0 0\ntell 0 2\nuntell 0\nput 1 0\nclear 0\ntie 0 : 0 0\nsure\nwrong\nseen\nput 0 1\ntell 0 1\nbroken\nshow -"), replies(book, 1, "")
    (['refused NothingDone', 'refused NoKind 1', 'refused NoPlace 7', 'refused Unfit', 'refused Unfit', 'refused NoValue 2', 'refused Unfit', 'refused NoPlace 1', 'refused CanNot', 'done', 'refused CanNot', 'refused CanNot', '-', 'done', 'refused Unfit', '0:0.0', 'done'], [])
    >>> is_request(book, "tie 0 :"), is_request(book, "tell 0 01"), is_request(book, "kind 2 : 02"), is_request(book, "kind 1 :"), is_request(book, "kind 3"), is_request(book, "untie 9 : 0 0 0 0")
    (False, False, False, False, True, True)
    >>> replies(book, 1, "count\nlook")
    raises BadLine(number=1)
"""
ASKING = ("count", "deeds", "places", "solved", "told", "sets", "sure", "seen", "hints", "shown", "wrong", "changed", "ties", "broken", "kinds")
GOOD = list(ASKING) + [
    "tie 0 : 0 1", "tie 12 : 7", "tie 0 : 0 0 0 0 0", "untie 0 : 0", "untie 9 : 0 0 0 0", "tell 0 1", "tell 999 99", "untell 0", "untell 10",
    "show 0", "show 0 0 7", "show -", "more", "put 0 0", "put 5 5", "clear 3", "unkind 0", "unkind 44", "undo", "kind 1", "kind 2", "kind 3",
    "kind 1 : 0", "kind 1 : 1 0 1", "kind 2 : 11 00", "kind 3 : 101", "tell 0 " + "9" * 390, "kind 1 : " + "0 " * 150 + "1"]
BAD = ["", " ", "-", "look", "Count", "count ", " count", "count 0", "deeds -", "tie", "tie 0", "tie 0 :", "tie 0 : ", "tie 0 0", "tie : 0", "tie 0 : 00",
       "tie 00 : 0", "tie 0 :0", "tie 0: 0", "tie 0 : 0  1", "tie  0 : 0", "tie 0 : 0 ", "tie 0 : -1", "tie 0 : -", "untie 0", "untie 0 : x", "tell", "tell 0",
       "tell 0 01", "tell 0 1 2", "tell 0  1", "tell 0 : 1", "tell 0=1", "untell", "untell 0 0", "untell -", "untell x", "show", "show ", "show - -", "show - 0",
       "show 0 -", "show 01", "more 1", "more ", "put", "put 0", "put 0 0 0", "put 0 -1", "clear", "clear 0 0", "clear 01", "unkind", "unkind 0 0", "undo 1",
       "kind", "kind 0", "kind 4", "kind 1 :", "kind 1 : ", "kind 1 : 2", "kind 1 : 00", "kind 2 : 0", "kind 2 : 02", "kind 1 0", "kind 01", "kind 1 : -",
       "kind 1 : 0 ", "book 2", "puzzle 2", "refused", "done", "count\n", "count\ncount", "more\n", "kind 1\n", "tie 0 : 0\n", "show -\n", "kind 1 : 0\n",
       "tell 0 \u0661", "tell 0 \u00b2", "untell \uff11", "solved?", "yes"]


def line_of(word, given):
    """The request that asks for a deed."""
    if word in ("tie", "untie"):
        number, spots = given if word == "tie" else given[0]
        return " ".join([word, str(number), ":", *map(str, spots)])
    if word == "show":
        return "show " + (" ".join(map(str, given[0])) or "-")
    if word == "kind":
        width, rows = given[0]
        return f"kind {width}" + " :" * bool(rows) + "".join(" " + "".join(map(str, row)) for row in rows[::-1] + rows[:1])
    return " ".join([word, *map(str, given)])


def refusal(error):
    number = getattr(error, "number", None)
    return "refused " + type(error).__name__ + ("" if number is None else f" {number}")


def joined(words):
    return " ".join(words) or "-"


def pair_words(pairs):
    return joined(f"{place}={value}" for place, value in pairs)


def answers(board, plain):
    """What the desk is to reply to all that asks, by the board, which is looked at in tests of its own."""
    book, puzzle, sets = plain.state
    found = {"count": str(len(agreeing(plain.state))), "deeds": str(len(plain.past)), "places": str(puzzle[0]), "told": pair_words(puzzle[2]),
             "solved": "yes" if board.is_done() else "no", "sets": pair_words(sets), "seen": pair_words(board.seen()), "shown": joined(map(str, puzzle[3])),
             "changed": joined(map(str, board.changed()))}
    for word, tell in (("sure", pair_words), ("hints", pair_words), ("wrong", lambda places: joined(map(str, places)))):
        try:
            found[word] = tell(getattr(board, word)())
        except CanNot as error:
            found[word] = refusal(error)
    for word, ties in (("ties", puzzle[1]), ("broken", board.broken())):
        found[word] = joined(f"{number}:" + ".".join(map(str, spots)) for number, spots in ties)
    kinds = [f"kind {width}" + " :" * bool(rows) + "".join(" " + "".join(map(str, row)) for row in rows) for width, rows in book[2]]
    found["kinds"] = " / ".join(kinds) or "-"
    return found


class ExamplesTest(unittest.TestCase):
    def test_examples(self):
        names = {name: part for name, part in vars(desk).items() if not name.startswith("_")}
        self.assertEqual(check_examples(self, EXAMPLES, names), 5)


class RequestsTest(Checked):
    def test_requests(self):
        for line in GOOD:
            self.assertIs(desk.is_request(BOOK, line), True, line)
            self.assertIs(desk.is_request(BOOK, [line]), False)
            self.assertIs(desk.is_request(BOOK, (line,)), False)
        for line in BAD:
            self.assertIs(desk.is_request(BOOK, line), False, line)
        things = [thing for thing in ODD] + [GOOD, tuple(GOOD), ("tell", 0, 1), ["count"], HUGE, b"count", {"count": 1}]
        for thing in things:
            self.assertIs(desk.is_request(BOOK, thing), False, repr(thing)[:100])
            self.assertIs(desk.is_request(listed(BOOK), thing), False)

    def test_values_of_the_book(self):
        self.assertIs(desk.is_request(UNLIKE, "kind 2 : 02"), True)
        self.assertIs(desk.is_request(UNLIKE, "kind 2 : 03"), False)
        self.assertIs(desk.is_request(ALONE, "kind 1 : 1"), False)
        self.assertIs(desk.is_request(ALONE, "kind 1 : 0 0"), True)

    def test_very_long_words(self):
        self.assertIs(desk.is_request(BOOK, "tell 0 " + "1" * 20000), True)
        self.assertIs(desk.is_request(BOOK, "tie " + "1" * 20000 + " : 0"), True)
        self.assertIs(desk.is_request(BOOK, "1" * 20000), False)
        self.assertIs(desk.is_request(BOOK, "kind " + "1" * 20000), False)


class RepliesTest(unittest.TestCase):
    def test_rows_of_requests(self):
        dice, refused = random.Random(201), {}
        for turn in range(48):
            book, places = BOOKS[turn % len(BOOKS)], dice.randint(1, 4)
            board, plain, lines, expected = Board(book, places), Plain(book, places), [], []
            for _ in range(18):
                word, given = a_deed(dice, plain.state)
                line = line_of(word, given)
                if "-1" in line or line.endswith(":"):
                    self.assertIs(desk.is_request(book, line), False)
                    continue
                self.assertIs(desk.is_request(book, line), True)
                error = plain.deed(word, *given)
                lines.append(line)
                expected.append("done" if error is None else refusal(error))
                refused[expected[-1].split()[-1].strip("0123456789")] = True
                if error is None:
                    getattr(board, word)(*given)
                told = answers(board, plain)
                for asked in dice.sample(ASKING, 2) if len(lines) < 55 else ():
                    lines.append(asked)
                    expected.append(told[asked])
            lines, expected = lines + list(ASKING), expected + [answers(board, plain)[word] for word in ASKING]
            check_told(self, board, plain)
            self.assertEqual(desk.replies(book, places, "\n".join(lines)), expected)
        self.assertIn("Unfit", refused)

    def test_each_refusal(self):
        text = "undo\nunkind 2\nuntell 1\nuntell 0\ntell 9 9\ntell 0 9\nput 9 9\nput 0 9\nclear 1\nclear 9\nshow 0 8 9\ntie 9 : 9\ntie 0 : 9 8\ntie 0 : 0"
        self.assertEqual(desk.replies(BOOK, 2, text + "\nuntie 5 : 7\ntell 1 1\nput 1 1\ndeeds"), [
            "refused NothingDone", "refused NoKind 2", "refused Unfit", "refused Unfit", "refused NoPlace 9", "refused NoValue 9", "refused NoPlace 9",
            "refused NoValue 9", "refused CanNot", "refused NoPlace 9", "refused NoPlace 8", "refused NoKind 9", "refused NoPlace 9", "refused Unfit",
            "refused Unfit", "done", "refused Unfit", "1"])
        self.assertEqual(desk.replies(QUIET, 1, "tell 0 0\ntell 1 0\nput 0 3"), ["refused Unfit", "refused NoPlace 1", "refused NoValue 3"])
        number = "9" * 300
        self.assertEqual(desk.replies(BOOK, 1, f"put {number} 0\nput 0 {number}\nunkind {number}"),
                         [f"refused NoPlace {number}", f"refused NoValue {number}", f"refused NoKind {number}"])

    def test_nothing_is_there(self):
        text = "\n".join(ASKING)
        self.assertEqual(desk.replies((2, True, ()), 2, text),
                         ["4", "0", "2", "no", "-", "-", "-", "-", "-", "-", "-", "-", "-", "-", "-"])
        self.assertEqual(desk.replies(BOOK, 2, ""), [])

    def test_bad_lines(self):
        for line in BAD:
            for at in range(3 if "\n" not in line else 0):
                lines = ["count", "undo"]
                lines.insert(at, line)
                for end in ("", "\nundo", "\nlook"):
                    named = {"book": BOOK, "places": 1, "text": "\n".join(lines) + end}
                    check_refusal(self, f"BadLine(number={at})", desk.replies, named)
        for text, number in (("count\n", 1), ("\n", 0), ("\ncount", 0), ("count\n\ncount", 1), ("more\ncount\n", 2)):
            check_refusal(self, f"BadLine(number={number})", desk.replies, {"book": BOOK, "places": 1, "text": text})

    def test_calls(self):
        check_call(self, desk.replies, {"book": BOOK, "places": 3, "text": "tie 0 : 0 1\nput 0 1\nsure\nundo\nundo\nundo\nkinds"})
        check_call(self, desk.is_request, {"book": BOOK, "thing": "tell 0 1"}, ("thing",))


if __name__ == "__main__":
    unittest.main()
