"""[15]: changes of puzzles and of books, and what they reach."""

import itertools
import random
import unittest

from blendworlds import changes
from tests.helper import LINE, SMALL, UNLIKE, a_puzzle, all_settings, check_call, check_examples, check_judge, check_raises, check_refusal
from tests.helper import listed, some_books, some_puzzles
from tests.plain import all_blends, all_tuples, left_by_plain_strikes, ties_of
from tests.test_making import THREE, TWO_HARD, tight_pairs
from tests.test_things import HUGE, LONG, ODD, Checked

EXAMPLES = """
    >>> book, puzzle = (2, True, ((2, ((0, 1), (1, 0))), (2, ((0, 0), (0, 1), (1, 1))))), (4, ((0, (0, 1)), (1, (1, 2))), ((0, 1),), ())
    >>> more = (("tie", (0, (2, 3))), ("untell", (0, 1)))
    >>> is_change(book, puzzle, more[0]), is_change(book, puzzle, ("tell", (0, 0))), behind(book, puzzle, more), back_of(more), fewest_changes(book, behind(book, puzzle, more), puzzle)
    (True, False, (4, ((0, (0, 1)), (0, (2, 3)), (1, (1, 2))), (), ()), (('tell', (0, 1)), ('untie', (0, (2, 3)))), 2)
    >>> touched(book, puzzle, more[0]), touched(book, puzzle, more[1]), lost_settings(book, puzzle, ("tell", (2, 0))), turned_places(book, puzzle, ("tell", (2, 0))), strikes_more(book, puzzle, ("tell", (2, 0)))
    ((0, 1, 2, 3), (0, 1, 2), [(1, 0, 1, 0), (1, 0, 1, 1)], (2,), ((2, 1),))
    >>> ring = (3, ((0, (0, 1)), (0, (0, 2)), (0, (1, 2))), ((0, 1),), ())
    >>> barest(book, puzzle), fewest_off(book, puzzle), blames(book, ring), fewest_off(book, ring)
    ((('untie', (1, (1, 2))),), (), [(('untie', (0, (0, 1))), ('untie', (0, (0, 2))), ('untie', (0, (1, 2))))], (('untie', (0, (0, 1))),))
    >>> lost_blends(book, (3, ((0, 0, 1), (0, 1, 0), (1, 0, 0))), 3), freed_blends(book, 0, 2)
    ([(0, 0, 0, 1, 0, 1, 1, 1)], [(0, 0, 0, 1), (0, 1, 1, 1)])
    >>> touched(book, puzzle, ("tie", (0, (0, 1))))
    raises Unfit()
"""
BOOK = (2, True, ((2, ((0, 1), (1, 0))), (2, ((0, 0), (0, 1), (1, 1)))))
PUZZLE = (4, ((0, (0, 1)), (1, (1, 2))), ((0, 1),), ())
RING = (3, ((0, (0, 1)), (0, (0, 2)), (0, (1, 2))), ((0, 1),), ())
BARE, QUIET, ALONE, NOTHING = (2, True, ()), (3, False, ()), (1, True, ((2, ((0, 0),)), (1, ()))), (0, (), (), ())
MANY_TOLD = (3, ((1, (0, 1)), (1, (1, 2))), ((0, 1), (1, 0), (2, 0)), ())
PAIRS = [(BOOK, PUZZLE), (BOOK, RING), (UNLIKE, LINE), (BARE, NOTHING), (BARE, (3, (), ((1, 0),), (1, 1))), (QUIET, (3, (), (), ())),
         (ALONE, (2, ((0, (0, 1)), (1, (0,))), ((0, 0),), ())), (BOOK, MANY_TOLD), (THREE, TWO_HARD), (BOOK, (1, ((0, (0, 0)),), (), ())),
         (BOOK, (2, ((0, (0, 0)), (0, (0, 1)), (1, (0, 1))), ((0, 0), (1, 0)), (1,)))]
PAIRS += some_puzzles(151, 120) + tight_pairs(152, 60)
CASES = [(book, puzzle, all_settings(book, puzzle)) for book, puzzle in PAIRS]
SMALLER = [case for case in CASES if case[1][0] <= 5 and len(case[1][1]) + len(case[1][2]) <= 7]
WORDS = {"tie": "untie", "untie": "tie", "tell": "untell", "untell": "tell"}


def all_changes(book, puzzle):
    """All changes of the puzzle."""
    told = dict(puzzle[2])
    found = [("untie", tie) for tie in puzzle[1]] + [("untell", pair) for pair in puzzle[2]]
    found += [("tie", tie) for tie in ties_of(book, puzzle[0]) if tie not in puzzle[1]]
    if book[1]:
        found += [("tell", (place, value)) for place in range(puzzle[0]) if place not in told for value in range(book[0])]
    return found


def no_changes(book, puzzle):
    """Pairs like changes that are none of the puzzle."""
    told = dict(puzzle[2])
    found = [("tie", tie) for tie in puzzle[1]] + [("untie", tie) for tie in ties_of(book, puzzle[0]) if tie not in puzzle[1]]
    pairs = list(itertools.product(range(puzzle[0]), range(book[0])))
    found += [("untell", pair) for pair in pairs if told.get(pair[0]) != pair[1]]
    return found + [("tell", pair) for pair in pairs if pair[0] in told or not book[1]]


def done(puzzle, change):
    places, ties, told, shown = puzzle
    word, part = change
    if word in ("tie", "untie"):
        return places, tuple(sorted({*ties, part} if word == "tie" else {*ties} - {part})), told, shown
    return places, ties, tuple(sorted({*told, part} if word == "tell" else {*told} - {part})), shown


def offs_of(puzzle):
    return sorted([("untie", tie) for tie in puzzle[1]] + [("untell", pair) for pair in puzzle[2]])


def sets_of(members):
    return [chosen for many in range(len(members) + 1) for chosen in itertools.combinations(members, many)]


def without_offs(puzzle, offs):
    for off in offs:
        puzzle = done(puzzle, off)
    return puzzle


def hanging(puzzle, place):
    found = {place}
    while True:
        more = {spot for _, spots in puzzle[1] if found & set(spots) for spot in spots} | found
        if more == found:
            return found
        found = more


def column_sets(settings, places):
    return [{row[place] for row in settings} for place in range(places)]


def left_pairs(book, puzzle):
    return {(place, value) for place, values in enumerate(left_by_plain_strikes(book, puzzle)) for value in values}


class ExamplesTest(unittest.TestCase):
    def test_examples(self):
        names = {name: part for name, part in vars(changes).items() if not name.startswith("_")}
        self.assertEqual(check_examples(self, EXAMPLES, names), 5)


class ChangesTest(unittest.TestCase):
    def test_which_are_changes(self):
        for book, puzzle, _ in CASES[:100]:
            for change in all_changes(book, puzzle):
                self.assertIs(changes.is_change(book, puzzle, change), True)
                self.assertEqual(changes.behind(book, puzzle, (change,)), done(puzzle, change))
            for change in no_changes(book, puzzle):
                self.assertIs(changes.is_change(book, puzzle, change), False)

    def test_changes_one_behind_another(self):
        dice = random.Random(3)
        for book, puzzle, _ in CASES:
            row, now = [], puzzle
            for _ in range(dice.randint(0, 7)):
                ways = all_changes(book, now)
                if ways:
                    row.append(dice.choice(ways))
                    now = done(now, row[-1])
            row = tuple(row)
            self.assertEqual(changes.behind(book, puzzle, row), now)
            back = changes.back_of(row)
            self.assertEqual(back, tuple((WORDS[word], part) for word, part in row[::-1]))
            self.assertEqual(changes.behind(book, now, back), puzzle)
            if row:
                check_refusal(self, "Unfit()", changes.behind, {"book": book, "puzzle": puzzle, "changes": row + row[-1:]})
        self.assertEqual(changes.behind(BARE, NOTHING, ()), NOTHING)
        self.assertEqual(changes.back_of(()), ())

    def test_fewest_changes(self):
        dice = random.Random(4)
        long = set()
        for book, one, _ in CASES:
            places, _, _, shown = one
            for _ in range(4):
                other = a_puzzle(dice, book)
                while other[0] != places:
                    other = a_puzzle(dice, book)
                other = other[:3] + (shown,)
                few = len(set(offs_of(one)) ^ set(offs_of(other)))
                long.add(few)
                self.check_ways(book, one, other, few)
            self.assertEqual((changes.fewest_changes(book, one, one), changes.change_way(book, one, one)), (0, ()))
        self.assertGreater(len(long), 6)

    def check_ways(self, book, one, other, few):
        self.assertEqual(changes.fewest_changes(book, one, other), few)
        way = changes.change_way(book, one, other)
        self.assertEqual(len(way), few)
        self.assertEqual(changes.behind(book, one, way), other)
        self.assertIs(changes.is_change_way(book, one, other, way), True)
        self.assertIs(changes.is_change_way(book, one, other, way[:-1]), not way)
        self.assertIs(changes.is_change_way(book, one, other, way + way[-1:]), not way)
        turned, puzzle = way[::-1], one
        good = all([changes.is_change(book, puzzle, change) and [puzzle := done(puzzle, change)] for change in turned])
        self.assertIs(changes.is_change_way(book, one, other, turned), bool(good))

    def test_no_way(self):
        for other in (PUZZLE[:3] + ((0,),), (5,) + PUZZLE[1:], NOTHING):
            self.assertIsNone(changes.fewest_changes(BOOK, PUZZLE, other))
            self.assertIsNone(changes.change_way(BOOK, PUZZLE, other))
            self.assertIs(changes.is_change_way(BOOK, PUZZLE, other, ()), False)

    def test_a_told_value_that_is_another_one(self):
        other = PUZZLE[:2] + (((0, 0),), ())
        self.assertEqual(changes.fewest_changes(BOOK, PUZZLE, other), 2)
        self.assertEqual(changes.change_way(BOOK, PUZZLE, other), (("untell", (0, 1)), ("tell", (0, 0))))
        self.assertIs(changes.is_change_way(BOOK, PUZZLE, other, (("tell", (0, 0)), ("untell", (0, 1)))), False)


class ReachTest(unittest.TestCase):
    def test_what_changes_reach(self):
        dice, reached = random.Random(5), 0
        for book, puzzle, settings in CASES:
            ways = all_changes(book, puzzle)
            for change in dice.sample(ways, min(6, len(ways))):
                behind = done(puzzle, change)
                after = all_settings(book, behind)
                self.assertEqual(changes.lost_settings(book, puzzle, change), [row for row in settings if row not in after])
                self.assertEqual(changes.won_settings(book, puzzle, change), [row for row in after if row not in settings])
                spots = change[1][1] if change[0] in ("tie", "untie") else change[1][:1]
                near = sorted(set().union(*[hanging(one, spot) for one in (puzzle, behind) for spot in spots]))
                self.assertEqual(changes.touched(book, puzzle, change), tuple(near))
                pairs = zip(column_sets(settings, puzzle[0]), column_sets(after, puzzle[0]))
                turned = [place for place, (one, other) in enumerate(pairs) if one != other]
                self.assertEqual(changes.turned_places(book, puzzle, change), tuple(turned))
                self.assertTrue(set(turned) <= set(near) or not settings or not after)
                ahead, then = left_pairs(book, puzzle), left_pairs(book, behind)
                self.assertEqual(changes.strikes_more(book, puzzle, change), tuple(sorted(ahead - then)))
                self.assertEqual(changes.strikes_back(book, puzzle, change), tuple(sorted(then - ahead)))
                reached += bool(turned) and ahead != then
        self.assertGreater(reached, 60)

    def test_what_is_no_change(self):
        for book, puzzle, _ in CASES[:40]:
            for change in no_changes(book, puzzle)[:6]:
                for function in (changes.touched, changes.lost_settings, changes.won_settings, changes.turned_places,
                                 changes.strikes_more, changes.strikes_back):
                    check_raises(self, "Unfit()", function, book, puzzle, change)
        for function in (changes.touched, changes.lost_settings, changes.won_settings, changes.turned_places,
                         changes.strikes_more, changes.strikes_back):
            check_refusal(self, "Unfit()", function, {"book": BOOK, "puzzle": PUZZLE, "change": ("untie", (0, (1, 0)))})


class OffsTest(unittest.TestCase):
    def test_needless_offs(self):
        both = 0
        for book, puzzle, settings in CASES:
            found = [off for off in offs_of(puzzle) if all_settings(book, done(puzzle, off)) == settings]
            both += len({word for word, _ in found}) == 2
            self.assertEqual(changes.needless_offs(book, puzzle), tuple(found))
        self.assertGreater(both, 3)

    def test_barest(self):
        long = set()
        for book, puzzle, settings in SMALLER:
            sets = [offs for offs in sets_of(offs_of(puzzle)) if all_settings(book, without_offs(puzzle, offs)) == settings]
            best = min(offs for offs in sets if len(offs) == len(sets[-1]))
            self.assertEqual(changes.barest(book, puzzle), best)
            long.add(len(best))
        self.assertGreater(len(long), 4)

    def test_blames_and_fewest_off(self):
        many, off = set(), set()
        for book, puzzle, _ in SMALLER:
            sets = sets_of(offs_of(puzzle))
            kept = {offs: bool(all_settings(book, without_offs(puzzle, set(offs_of(puzzle)) - set(offs)))) for offs in sets}
            blames = [offs for offs in sets if not kept[offs] and all(kept[fewer] for fewer in itertools.combinations(offs, len(offs) - 1) if offs)]
            self.assertEqual(changes.blames(book, puzzle), sorted(blames))
            gone = [offs for offs in sets if all_settings(book, without_offs(puzzle, offs))]
            self.assertEqual(changes.fewest_off(book, puzzle), gone[0])
            for offs in sets:
                self.assertIs(offs in gone, all(set(offs) & set(blame) for blame in blames))
            many.add(len(blames))
            off.add(len(gone[0]))
        self.assertGreater(len(many), 3)
        self.assertLessEqual({0, 1, 2}, off)

    def test_no_offs(self):
        for book, puzzle in ((BARE, NOTHING), (QUIET, (3, (), (), ()))):
            self.assertEqual((changes.barest(book, puzzle), changes.fewest_off(book, puzzle), changes.blames(book, puzzle)), ((), (), []))
            self.assertEqual(changes.needless_offs(book, puzzle), ())

    def test_one_that_is_told_wrong(self):
        self.assertEqual(changes.blames(BOOK, (1, ((0, (0, 0)),), ((0, 1),), ())), [(("untie", (0, (0, 0))),)])
        self.assertEqual(changes.fewest_off(BOOK, MANY_TOLD), (("untell", (0, 1)),))
        self.assertEqual(changes.barest(ALONE, (1, ((0, (0, 0)), (1, (0,))), ((0, 0),), ())), (("untell", (0, 0)), ("untie", (0, (0, 0)))))


class BlendsTest(unittest.TestCase):
    def test_blends_lost_and_freed(self):
        dice = random.Random(9)
        lost = freed = 0
        for book in [BOOK, UNLIKE, SMALL, BARE, QUIET, ALONE, (2, False, BOOK[2]), (1, False, ())] + some_books(153, 60):
            for k in (1, 2, 3) if book[0] < 3 else (1,):
                good = all_blends(book, k)
                for kind in book_kinds(dice, book[0])[-dice.choice((2, 7)):]:
                    fewer = all_blends(book[:2] + (book[2] + (kind,),), k)
                    found = changes.lost_blends(book, kind, k)
                    self.assertEqual(found, [blend for blend in good if blend not in fewer])
                    self.assertIs(changes.takes_none(book, kind, k), not found)
                    self.assertEqual([blend for blend in fewer if blend not in good], [])
                    lost += bool(found)
                for number in range(len(book[2])):
                    free = all_blends(book[:2] + (book[2][:number] + book[2][number + 1:],), k)
                    found = changes.freed_blends(book, number, k)
                    self.assertEqual(found, [blend for blend in free if blend not in good])
                    freed += bool(found)
        self.assertGreater(lost, 40)
        self.assertGreater(freed, 25)

    def test_no_kind(self):
        for number in (2, -1, HUGE, -HUGE):
            check_refusal(self, f"NoKind(number={number})", changes.freed_blends, {"book": BOOK, "number": number, "k": 2})
        check_refusal(self, "NoKind(number=0)", changes.freed_blends, {"book": BARE, "number": 0, "k": 1})


def book_kinds(dice, values):
    kinds = [(1, ()), (2, ()), (1, ((0,),))]
    for width in (1, 2, 2, 3):
        rows = all_tuples(values, width)
        kinds.append((width, tuple(sorted(dice.sample(rows, dice.randint(1, min(8, len(rows))))))))
    return kinds


class CallsTest(unittest.TestCase):
    def test_calls(self):
        for book, puzzle in ((BOOK, PUZZLE), (BOOK, RING), (UNLIKE, LINE), (BARE, NOTHING)):
            named = {"book": book, "puzzle": puzzle}
            for function in (changes.needless_offs, changes.barest, changes.blames, changes.fewest_off):
                check_call(self, function, named)
            for change in all_changes(book, puzzle)[:1] + all_changes(book, puzzle)[-1:]:
                check_judge(self, changes.is_change, {**named, "thing": change})
                check_call(self, changes.behind, {**named, "changes": (change,)})
                check_call(self, changes.back_of, {"changes": (change,)})
                for function in (changes.touched, changes.lost_settings, changes.won_settings, changes.turned_places,
                                 changes.strikes_more, changes.strikes_back):
                    check_call(self, function, {**named, "change": change})
                other = done(puzzle, change)
                for function in (changes.fewest_changes, changes.change_way):
                    check_call(self, function, {"book": book, "one": puzzle, "other": other})
                check_judge(self, changes.is_change_way, {"book": book, "one": puzzle, "other": other, "thing": (change,)})
        for function in (changes.lost_blends, changes.takes_none):
            check_call(self, function, {"book": BOOK, "kind": (2, ((0, 0), (1, 0))), "k": 2})
        check_call(self, changes.freed_blends, {"book": BOOK, "number": 1, "k": 2})


class ThingsTest(Checked):
    def test_changes(self):
        good = [("tie", (0, (2, 3))), ("tie", (1, (1, 1))), ("untie", (1, (1, 2))), ("tell", (3, 0)), ("untell", (0, 1))]
        bad = [("tie", (0, (0, 1))), ("untie", (0, (2, 3))), ("tell", (0, 0)), ("tell", (0, 1)), ("untell", (0, 0)), ("untell", (3, 0)),
               ("tie", (0, (2, True))), ("tie", (False, (2, 3))), ("tie", (2, (0, 1))), ("tie", (0, (0, 4))), ("tie", (0, (0, 1, 2))),
               ("tell", (3, False)), ("tell", (True, 0)), ("tell", (4, 0)), ("tell", (3, 2)), ("tell", (3,)), ("tell", (3, 0, 0)), ("tell", 3),
               ("untell", (0, True)), ("untell", (False, 1)), ("untie", (True, (1, 2))), ("untie", (1, (True, 2))), ("tie",), ("tie", None),
               ("Tie", (0, (2, 3))), ("", (0, (2, 3))), (None, (0, (2, 3))), (("tie",), (0, (2, 3))), ("tie", (0, (2, 3)), ()), ("tie", "0"),
               ("tell", (HUGE, 0)), ("tell", (3, -HUGE)), ("tie", (HUGE, (2, 3))), ("tie", (0, LONG)), ("untie", LONG), (True, (3, 0)),
               ("tie", [0, (2, 3)]), ("untie", (1, [1, 2])), ("untell", [0, 1])]
        self.check(lambda thing: changes.is_change(BOOK, PUZZLE, thing), good, bad + ODD)
        self.check(lambda thing: changes.is_change(listed(BOOK), listed(PUZZLE), thing), good, bad)
        quiet = (2, False, BOOK[2])
        self.check(lambda thing: changes.is_change(quiet, PUZZLE[:2] + ((), ()), thing), good[:3], good[3:] + bad)
        self.check(lambda thing: changes.is_change(BARE, NOTHING, thing), [], good + bad + ODD)

    def test_change_ways(self):
        other = (4, ((0, (0, 1)), (0, (2, 3)), (1, (1, 2))), (), ())
        good = [(("tie", (0, (2, 3))), ("untell", (0, 1))), (("untell", (0, 1)), ("tie", (0, (2, 3))))]
        bad = [(), good[0][:1], good[0][1:], good[0] + (("tie", (0, (0, 0))),), good[0] * 500, (good[0][0], good[0][0]), ("tie", (0, (2, 3))),
               (good[0][0], ("untell", (0, True))), (good[0][0], None), (good[0][0], ()), (LONG, LONG), "ab", (good[0][0], ["untell", (0, 1)])]
        self.check(lambda thing: changes.is_change_way(BOOK, PUZZLE, other, thing), good, bad + ODD)
        rest = [thing for thing in bad + ODD + good if thing != ()]
        self.check(lambda thing: changes.is_change_way(BOOK, PUZZLE, PUZZLE, thing), [()], rest)
        self.check(lambda thing: changes.is_change_way(BOOK, PUZZLE, NOTHING, thing), [], [()] + rest)


if __name__ == "__main__":
    unittest.main()
