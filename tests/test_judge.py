"""[17]: promises of books, what shows that they are not kept, and which kinds are to blame."""

import itertools
import random
import unittest

from blendworlds import judge
from blendworlds.leasts import has_leasts, is_leastless
from blendworlds.pairs import goes_by_pairs, is_pairs_paper
from blendworlds.puzzles import is_puzzle
from blendworlds.showing import can_be_stuck, follows, is_parting_puzzle, is_stuck_puzzle
from blendworlds.spared import are_spared, is_wanting
from blendworlds.strikes import is_undecided, strikes_decide
from blendworlds.sums import has_sums, is_sums_paper
from tests.helper import SMALL, UNLIKE, all_settings, check_call, check_examples, check_judge, check_raises, check_refusal, listed
from tests.helper import some_books
from tests.plain import all_blends, all_tuples, keeps_a_book, left_by_plain_strikes, makes, pool
from tests.test_paper_things import NO_PUZZLES
from tests.test_things import HUGE, LONG, ODD, Checked

EXAMPLES = """
    >>> climb, either, unlike = (2, ((0, 0), (0, 1), (1, 1))), (2, ((0, 1), (1, 0), (1, 1))), (2, ((0, 1), (1, 0)))
    >>> book, least = (2, True, (climb, unlike)), (0, 0, 0, 1)
    >>> promises = (("least", (0, 1)), ("strikes",), ("pairs",), ("sums",), ("blend", 2, least), ("follows", ((0, 1), (1, 0)), (0, 0)))
    >>> kept_of((2, True, (climb,)), promises), kept_of((2, True, (either,)), promises), kept_of(book, promises), kept_of((2, False, ()), promises)
    ((0, 1, 2, 4, 5), (1, 2), (2,), (0, 1, 2, 3, 4, 5))
    >>> fall_with((2, True, (climb,)), unlike, promises), come_without(book, 1, promises), come_without(book, 0, promises)
    ((0, 1, 4, 5), (0, 1, 4, 5), (3,))
    >>> blamed_kinds(book, ("strikes",)), blamed_kinds((2, True, (unlike, either, unlike)), ("sums",)), kinds_to_go((2, True, (unlike, climb, unlike)), ("least", (0, 1))), blamed_kinds(book, ("solvable",)), kinds_to_go(book, ("pairs",))
    ([(1,)], [(1,)], [(0, 2)], [(0,), (1,)], [()])
    >>> is_paper(book, ("blend", 2, least), ((2, ((1, (0, 1)),), (), ()), ((0, 1), (1, 0)))), is_paper(book, ("blend", 2, least), ((2, ((0, (0, 1)),), (), ()), ((0, 1), (1, 1)))), is_paper(book, ("solvable",), (1, ((1, (0, 0)),), (), ()))
    (True, False, True)
    >>> is_promise(book, ("least", (1, 0))), is_promise(book, ("least", (0, 2))), is_promise((3, True, ()), ("pairs",)), is_promise(book, ("spared", ()))
    (True, False, False, True)
    >>> is_kept(book, ("easy",))
    raises NoWord(word='easy')
    >>> a_paper(book, ("pairs",))
    raises CanNot()
"""
CLIMB, EITHER, UNALIKE = (2, ((0, 0), (0, 1), (1, 1))), (2, ((0, 1), (1, 0), (1, 1))), (2, ((0, 1), (1, 0)))
BOOK, LEAST = (2, True, (CLIMB, UNALIKE)), (0, 0, 0, 1)
BARE, QUIET, ALONE, HOLLOW = (2, True, ()), (2, False, ()), (1, True, ((2, ((0, 0),)), (1, ()))), (2, False, ((1, ()), (2, ())))
PROMISES = (("least", (0, 1)), ("strikes",), ("pairs",), ("sums",), ("blend", 2, LEAST), ("follows", ((0, 1), (1, 0)), (0, 0)),
            ("solvable",), ("spared", (0,)))
BOOKS = [BOOK, BARE, QUIET, ALONE, HOLLOW, UNLIKE, SMALL, (2, False, (UNALIKE,)), (3, False, UNLIKE[2]), (1, False, ()), (3, False, ()),
         (2, False, (CLIMB, EITHER, UNALIKE))] + some_books(171, 70)
WORDS = ("follows", "solvable", "spared", "least", "strikes", "pairs", "sums", "blend")


def some_promises(dice, book):
    """Promises of the book, some of each word."""
    values = range(book[0])
    found = [("solvable",), ("strikes",), ("sums",), ("least", tuple(dice.sample(values, book[0]))), ("spared", ()),
             ("spared", tuple(values))]
    found += [("spared", (value,)) for value in values] + ([("pairs",)] if book[0] < 3 else [])
    for _ in range(3):
        length = dice.choice((0, 1, 2, 2, 3))
        rows = tuple(tuple(dice.choice(values) for _ in range(length)) for _ in range(dice.choice((1, 2, 2))))
        found.append(("follows", rows, tuple(dice.choice(values) for _ in range(length))))
    for k in (1, 2) if book[0] == 3 else (1, 2, 3):
        found.append(("blend", k, tuple(dice.choice(values) for _ in range(book[0] ** k))))
        at = dice.randrange(k)
        found.append(("blend", k, tuple(row[at] for row in all_tuples(book[0], k))))
    if book[0] < 3:
        found.append(("blend", 2, dice.choice(all_blends(book, 2))))
    return found


def by_points(book, promise):
    """Whether the book keeps the promise, as the functions of the points tell."""
    word, rest = promise[0], promise[1:]
    if word == "blend":
        return keeps_a_book(book, rest[0], rest[1])
    if word == "solvable":
        return not can_be_stuck(book)
    return {"follows": follows, "spared": are_spared, "least": has_leasts, "strikes": strikes_decide, "pairs": goes_by_pairs,
            "sums": has_sums}[word](book, *rest)


def judged_by_points(book, promise, thing):
    word, rest = promise[0], promise[1:]
    return {"follows": is_parting_puzzle, "solvable": is_stuck_puzzle, "spared": is_wanting, "least": is_leastless, "strikes": is_undecided,
            "pairs": is_pairs_paper, "sums": is_sums_paper}[word](book, *rest, thing)


def shows(puzzle, settings, row):
    return len(row) == len(puzzle[3]) and row in {tuple(setting[place] for place in puzzle[3]) for setting in settings}


def plain_paper(book, promise, puzzle, settings):
    """Whether the puzzle, with these settings, shows that the promise is not kept; of promises whose papers are puzzles."""
    word, rest = promise[0], promise[1:]
    if word == "follows":
        return all(shows(puzzle, settings, row) for row in rest[0]) and not shows(puzzle, settings, rest[1])
    if word == "solvable":
        return not settings
    if word == "spared":
        return bool(settings) and all(set(row) & set(rest[0]) for row in settings)
    if word == "least":
        order = rest[0]
        lowest = tuple(min(column, key=order.index) for column in zip(*settings))
        return bool(settings) and lowest not in settings
    return not settings and () not in left_by_plain_strikes(book, puzzle)


def plain_other_paper(book, promise, thing):
    """Whether thing is a paper, of promises whose papers are pairs of a puzzle and something."""
    puzzle, more = thing
    settings = all_settings(book, puzzle)
    if promise[0] == "pairs":
        columns = list(zip(puzzle[3], more))
        pairs = [any(all(row[place] == value for place, value in both) for row in settings) for both in itertools.product(columns, repeat=2)]
        return bool(more) and len(more) == len(puzzle[3]) and not shows(puzzle, settings, more) and all(pairs)
    if not all(row in settings for row in more):
        return False
    if promise[0] == "sums":
        return len(more) == 3 and tuple((one - two + three) % book[0] for one, two, three in zip(*more)) not in settings
    return len(more) == promise[1] and makes(book, promise[2], more) not in settings


class ExamplesTest(unittest.TestCase):
    def test_examples(self):
        names = {name: part for name, part in vars(judge).items() if not name.startswith("_")}
        self.assertEqual(check_examples(self, EXAMPLES, names), 7)


class PromisesTest(unittest.TestCase):
    def test_kept_promises_and_papers(self):
        dice, both = random.Random(172), set()
        for book in BOOKS:
            for promise in some_promises(dice, book):
                kept = by_points(book, promise)
                both.add((promise[0], kept))
                self.assertIs(judge.is_promise(book, promise), True)
                self.assertIs(judge.is_kept(book, promise), kept, (book, promise))
                named = {"book": book, "promise": promise}
                if kept:
                    check_raises(self, "CanNot()", judge.a_paper, **named)
                    continue
                paper = judge.a_paper(**named)
                self.assertIs(judge.is_paper(book, promise, paper), True, (book, promise, paper))
                self.check_paper(book, promise, paper)
        self.assertEqual(both, set(itertools.product(WORDS, (False, True))))

    def check_paper(self, book, promise, paper):
        if promise[0] in ("pairs", "sums", "blend"):
            self.assertIs(is_puzzle(book, paper[0]), True)
            self.assertTrue(plain_other_paper(book, promise, paper))
        elif book[0] ** paper[0] < 20000:
            self.assertIs(is_puzzle(book, paper), True)
            self.assertTrue(plain_paper(book, promise, paper, all_settings(book, paper)))

    def test_by_many_puzzles(self):
        dice, papers = random.Random(173), {}
        for book, puzzles in pool()[1::2]:
            for promise in some_promises(dice, book):
                kept = judge.is_kept(book, promise)
                for puzzle, settings in dice.sample(puzzles, min(10, len(puzzles))):
                    if promise[0] in ("pairs", "sums", "blend"):
                        found = self.check_pair(dice, book, promise, puzzle, settings)
                    else:
                        found = plain_paper(book, promise, puzzle, settings)
                        self.assertIs(judge.is_paper(book, promise, puzzle), found, (book, promise, puzzle))
                        self.assertIs(judged_by_points(book, promise, puzzle), found)
                    self.assertFalse(found and kept, (book, promise, puzzle))
                    papers[promise[0]] = papers.get(promise[0], 0) + found
        self.assertTrue(all(papers[word] > 4 for word in WORDS if word != "pairs"), papers)

    def check_pair(self, dice, book, promise, puzzle, settings):
        if not settings:
            return False
        if promise[0] == "pairs":
            more = tuple(dice.choice(range(book[0])) for _ in puzzle[3])
        else:
            more = tuple(dice.choice(settings) for _ in range(3 if promise[0] == "sums" else promise[1]))
        found = plain_other_paper(book, promise, (puzzle, more))
        self.assertIs(judge.is_paper(book, promise, (puzzle, more)), found)
        return found

    def test_small_edges(self):
        self.assertIs(judge.is_kept(BARE, ("blend", 1, (1, 0))), False)
        puzzle, rows = judge.a_paper(BARE, ("blend", 1, (1, 0)))
        self.assertTrue(plain_other_paper(BARE, ("blend", 1, (1, 0)), (puzzle, rows)))
        self.assertIs(judge.is_kept(QUIET, ("blend", 1, (1, 0))), True)
        self.assertIs(judge.is_kept(QUIET, ("follows", ((),), ())), True)
        self.assertIs(judge.is_kept(BOOK, ("spared", ())), True)
        self.assertIs(judge.is_kept(BOOK, ("spared", (0, 1))), False)
        self.assertIs(judge.is_kept(HOLLOW, ("solvable",)), False)
        self.assertIs(judge.is_kept((1, True, ((2, ((0, 0),)),)), ("solvable",)), True)


class ManyPromisesTest(unittest.TestCase):
    def test_kept_of_many(self):
        dice, kind = random.Random(174), (2, ((0, 0), (1, 0)))
        fallen = come = 0
        for book in BOOKS:
            promises = tuple(dice.sample(some_promises(dice, book), 8))
            kept = {at for at, promise in enumerate(promises) if by_points(book, promise)}
            self.assertEqual(judge.kept_of(book, promises), tuple(sorted(kept)))
            for kind in ((2, ((0, 0),)), (1, ()), (2, ()), (1, tuple((value,) for value in range(book[0]))), CLIMB, UNALIKE)[:6 if book[0] > 1 else 4]:
                more = (book[0], book[1], book[2] + (kind,))
                then = {at for at, promise in enumerate(promises) if by_points(more, promise)}
                self.assertEqual(judge.fall_with(book, kind, promises), tuple(sorted(kept - then)))
                fallen += bool(kept - then)
            for number in range(len(book[2])):
                less = (book[0], book[1], book[2][:number] + book[2][number + 1:])
                then = {at for at, promise in enumerate(promises) if by_points(less, promise)}
                self.assertLessEqual(kept, then)
                self.assertEqual(judge.come_without(book, number, promises), tuple(sorted(then - kept)))
                come += bool(then - kept)
        self.assertGreater(min(fallen, come), 30)

    def test_no_promises(self):
        self.assertEqual(judge.kept_of(BOOK, ()), ())
        self.assertEqual(judge.fall_with(BOOK, UNALIKE, ()), ())
        self.assertEqual(judge.come_without(BOOK, 0, ()), ())


class BlameTest(unittest.TestCase):
    def test_blamed_kinds(self):
        dice, long = random.Random(175), set()
        for book in BOOKS:
            if len(book[2]) > 3 or book[0] == 3 and any(width == 3 for width, _ in book[2]):
                continue
            for promise in some_promises(dice, book):
                if promise[0] == "blend" and promise[1] > 2:
                    continue
                numbers = range(len(book[2]))
                sets = [chosen for many in range(len(numbers) + 1) for chosen in itertools.combinations(numbers, many)]
                kept = {chosen: by_points((book[0], book[1], tuple(book[2][number] for number in chosen)), promise) for chosen in sets}
                blamed = [one for one in sets if not kept[one] and all(kept[other] for other in sets if set(other) < set(one))]
                self.assertEqual(judge.blamed_kinds(book, promise), sorted(blamed))
                rest = {one: tuple(number for number in numbers if number not in one) for one in sets}
                to_go = [one for one in sets if kept[rest[one]] and not any(kept[rest[other]] for other in sets if set(other) < set(one))]
                self.assertEqual(judge.kinds_to_go(book, promise), sorted(to_go))
                for one in sets:
                    self.assertIs(kept[rest[one]], all(set(one) & set(blame) for blame in blamed))
                long.add((len(blamed), len(to_go)))
        self.assertLessEqual({(0, 1), (1, 0), (1, 1), (2, 1)}, long)

    def test_edges(self):
        self.assertEqual(judge.blamed_kinds(BARE, ("blend", 1, (1, 0))), [()])
        self.assertEqual(judge.kinds_to_go(BARE, ("blend", 1, (1, 0))), [])
        self.assertEqual(judge.blamed_kinds(BARE, ("pairs",)), [])
        self.assertEqual(judge.kinds_to_go(BARE, ("pairs",)), [()])
        two = (2, False, ((1, ((0,),)), (1, ((1,),)), (2, ((0, 0),))))
        self.assertEqual(judge.blamed_kinds(two, ("solvable",)), [(0, 1), (1, 2)])
        self.assertEqual(judge.kinds_to_go(two, ("solvable",)), [(0, 2), (1,)])
        # ascending, not those with fewer kinds ahead
        three = (2, False, ((1, ((0,),)), (1, ((1,),)), (1, ())))
        self.assertEqual(judge.blamed_kinds(three, ("solvable",)), [(0, 1), (2,)])
        self.assertEqual(judge.kinds_to_go(three, ("solvable",)), [(0, 2), (1, 2)])


class RefusalsTest(unittest.TestCase):
    def test_words_and_promises(self):
        kind = UNALIKE
        wrong = [(("easy",), "NoWord(word='easy')"), (("",), "NoWord(word='')"), (("Strikes",), "NoWord(word='Strikes')"),
                 (("strikes", 1), "Unfit()"), (("least", (0, 2)), "Unfit()"), (("least",), "Unfit()"), (("spared", (1, 0)), "Unfit()"),
                 (("spared", (2,)), "Unfit()"), (("follows", (), (0,)), "Unfit()"), (("follows", ((0, 1),), (0,)), "Unfit()"),
                 (("blend", 4, (0,) * 16), "Unfit()"), (("blend", 2, (0, 1)), "Unfit()"), (("blend", 0, (0,)), "Unfit()"), (("sums", ()), "Unfit()")]
        for promise, text in wrong:
            for function in (judge.is_kept, judge.a_paper, judge.blamed_kinds, judge.kinds_to_go):
                check_refusal(self, text, function, {"book": BOOK, "promise": promise})
            check_raises(self, text, judge.is_paper, BOOK, promise, (0, (), (), ()))
            for promises in ((promise,), (("strikes",), promise, ("nothing",)), (("sums",), promise, ("least", (7,)))):
                check_refusal(self, text, judge.kept_of, {"book": BOOK, "promises": promises})
                check_refusal(self, text, judge.fall_with, {"book": BOOK, "kind": kind, "promises": promises})
                check_refusal(self, text, judge.come_without, {"book": BOOK, "number": 1, "promises": promises})
                for number in (2, -1, HUGE):
                    named = {"book": BOOK, "number": number, "promises": promises}
                    check_refusal(self, f"NoKind(number={number})", judge.come_without, named)
        check_refusal(self, "Unfit()", judge.is_kept, {"book": UNLIKE, "promise": ("pairs",)})
        check_refusal(self, "Unfit()", judge.a_paper, {"book": UNLIKE, "promise": ("pairs",)})
        check_refusal(self, "CanNot()", judge.a_paper, {"book": BOOK, "promise": ("pairs",)})

    def test_each_in_turn(self):
        for promises, text in (((("least", (7,)), ("easy",)), "Unfit()"), ((("easy",), ("least", (7,))), "NoWord(word='easy')")):
            check_refusal(self, text, judge.kept_of, {"book": BOOK, "promises": promises})


class CallsTest(unittest.TestCase):
    def test_calls(self):
        for promise in PROMISES:
            named = {"book": BOOK, "promise": promise}
            for function in (judge.is_kept, judge.blamed_kinds, judge.kinds_to_go):
                check_call(self, function, named)
            check_judge(self, judge.is_promise, {"book": BOOK, "thing": promise})
            if judge.is_kept(BOOK, promise):
                check_refusal(self, "CanNot()", judge.a_paper, named)
            else:
                check_call(self, judge.a_paper, named)
                check_judge(self, judge.is_paper, {**named, "thing": judge.a_paper(BOOK, promise)})
        check_call(self, judge.kept_of, {"book": BOOK, "promises": PROMISES})
        check_call(self, judge.fall_with, {"book": (2, True, (CLIMB,)), "kind": UNALIKE, "promises": PROMISES})
        check_call(self, judge.come_without, {"book": BOOK, "number": 1, "promises": PROMISES})


class ThingsTest(Checked):
    def test_promises(self):
        good = list(PROMISES) + [("blend", 3, (0, 1) * 4), ("blend", 1, (0, 0)), ("spared", ()), ("spared", (0, 1)), ("follows", ((),), ()),
                                 ("follows", ((0, 1, 1, 0, 1, 1),) * 40, (0,) * 6), ("least", (1, 0))]
        bad = [("easy",), (), ("",), ("strikes", 1), ("strikes", ()), ("least",), ("least", (0, 1), ()), ("least", (0, True)), ("least", (0,)),
               ("least", "01"), ("least", None), ("spared", (1, 0)), ("spared", (0, 0)), ("spared", (2,)), ("spared", (True,)), ("spared", 0),
               ("spared",), ("spared", None), ("spared", (HUGE,)), ("spared", (-1,)), ("pairs", ()), ("solvable", 0), (("strikes",),),
               ("follows", (), ()), ("follows", ((0, 1),), (0,)), ("follows", ((0, 1), (0,)), (0, 1)), ("follows", ((0, True),), (0, 1)),
               ("follows", ((0, 1),), (0, True)), ("follows", ((0, 1),), None), ("follows", (0, 1), (0, 1)), ("follows", None, (0, 1)),
               ("follows", ((0, 2),), (0, 1)), ("follows", ((0, 1),), (0, -1)), ("follows", ((0, 1),)), ("follows", "01", "0"),
               ("blend", 4, (0,) * 16), ("blend", 0, (0,)), ("blend", True, (0, 1)), ("blend", 2, (0, 0, 0, True)), ("blend", 2, (0, 0, 0)),
               ("blend", 2, (0, 0, 0, 2)), ("blend", -1, ()), ("blend", HUGE, (0, 0, 0, 1)), ("blend", None, (0, 1)), ("blend", "1", (0, 1)),
               ("blend", 2), ("blend", 1, "01"), ("blend", 1, LONG), (True,), (None,), (1, 2), "strikes", ("strikes", "sums"), ([],), ([], []),
               ("follows", [(0, 1)], (0, 1)), ("follows", ([0, 1],), (0, 1)), ("strikes" * 500,), (("blend", 1, (0, 1)), 1)]
        self.check(lambda thing: judge.is_promise(BOOK, thing), good, bad + ODD)
        self.check(lambda thing: judge.is_promise(listed(BOOK), thing), good, bad)
        self.check(lambda thing: judge.is_promise(UNLIKE, thing), [("blend", 3, (0, 1, 2) * 9), ("spared", (0, 2)), ("least", (2, 0, 1))],
                   [("pairs",), ("least", (0, 1)), ("spared", (3,)), ("blend", 3, (0, 1) * 4)])

    def test_papers_that_are_puzzles(self):
        ring = (2, False, (UNALIKE,))
        triangle = (3, ((0, (0, 1)), (0, (0, 2)), (0, (1, 2))), (), ())
        for promise, good in ((("strikes",), triangle), (("solvable",), triangle), (("spared", (1,)), (2, triangle[1][:1], (), ())),
                              (("least", (0, 1)), (2, triangle[1][:1], (), ())), (("follows", ((0, 1),), (0, 0)), (2, triangle[1][:1], (), (0, 1)))):
            self.check(lambda thing: judge.is_paper(ring, promise, thing), [good], NO_PUZZLES)

    def test_papers_that_are_pairs(self):
        book = (2, True, (UNALIKE,))
        two, rows = (2, ((0, (0, 1)),), (), ()), ((0, 1), (1, 0))
        bad = [(two, rows[:1]), (two, rows + rows[:1]), (two, ((0, 1), (0, 1))), (two, ((0, 1), (0, 0))), (two, ((0, 1), (True, 0))), (two,),
               (two, rows, 0), (two, None), (two, "01"), (two, ("01", "10")), (two, ((0, 1), (1, 0, 0))), (two, ((0, 1), None)), (None, rows),
               ((2, ((0, (0, True)),), (), ()), rows), ((HUGE, two[1], (), ()), rows), (two, ((0, 1), (1, HUGE))), (rows, two), (two, LONG),
               ((0, (), (), ()), ((), ())), ((2, (), (), ()), rows), (two, ((0, 1), [1, 0])), ((1, (), ((0, 1),), ()), ((1,), (1,)))]
        bad += [(thing, more) for thing in NO_PUZZLES for more in (rows, ((), ()), ())]
        good = [(two, rows), (two, rows[::-1]), ((2, ((0, (1, 0)),), (), (0, 0)), rows)]
        self.check(lambda thing: judge.is_paper(book, ("blend", 2, LEAST), thing), good, bad + ODD)
        told = (1, (), ((0, 1),), ())
        self.check(lambda thing: judge.is_paper(BARE, ("blend", 1, (0, 0)), thing), [(told, ((1,),)), ((2, (), ((1, 1),), ()), ((0, 1),))],
                   [(told, ((0,),)), ((1, (), (), ()), ((1,),)), (told, ((True,),)), (told, (1,)), (told, ())] + ODD)
        for promise in (("sums",), ("pairs",)):
            self.check(lambda thing: judge.is_paper(book, promise, thing), [], bad + ODD)


if __name__ == "__main__":
    unittest.main()
