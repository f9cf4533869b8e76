"""[14]: puzzles with just one setting, clues and hints."""

import itertools
import random
import unittest

from blendworlds import making
from blendworlds.strikes import strikes_decide
from tests.helper import LINE, UNLIKE, all_settings, check_call, check_examples, check_judge, check_refusal, listed, some_puzzles
from tests.plain import all_tuples, left_by_plain_strikes
from tests.test_things import HUGE, LONG, ODD, Checked

EXAMPLES = """
    >>> book = (3, True, ((2, ((0, 1), (0, 2), (1, 0), (1, 2), (2, 0), (2, 1))),))
    >>> puzzle = (4, ((0, (0, 1)), (0, (0, 2)), (0, (1, 2)), (0, (2, 3))), ((0, 0),), ())
    >>> is_single(book, puzzle), is_enough(book, puzzle, (0, 1, 2, 0), (1, 3)), lean_clues(book, puzzle, (0, 1, 2, 0)), fewest_clues(book, puzzle, (0, 1, 2, 1))
    (False, True, [(1, 3), (2, 3)], (3,))
    >>> tells_all(book, puzzle, (1, 3)), fewest_to_tell(book, puzzle), seen_clues(book, puzzle), left_by_tries(book, puzzle)
    (True, (1, 3), ((0, 0),), ((0,), (1, 2), (1, 2), (0, 1, 2)))
    >>> made = (4, puzzle[1], ((0, 0), (1, 1), (2, 2), (3, 0)), ())
    >>> needless_told(book, made), kept_away(book, made, 3), kept_away(book, made, 1), reason_for(book, made, 2)
    ((0, 1, 2), [(0, 1, 2, 1)], [], (2,))
    >>> spoilt_by(book, (4, puzzle[1], ((0, 0), (1, 0), (2, 1), (3, 1)), ())), how_many_lean(book, puzzle), fewest_to_have(book, puzzle, 2), fewest_to_have(book, puzzle, 0)
    ((0, 2), 6, ((1, 1),), ((1, 0),))
    >>> three = (2, True, ((2, ((0, 0), (0, 1), (1, 0))), (2, ((0, 1), (1, 0), (1, 1)))))
    >>> hard = (3, ((0, (0, 1)), (1, (0, 1)), (1, (0, 2)), (1, (1, 2))), (), ())
    >>> seen_clues(three, hard), fewest_hints(three, hard), most_hints(three, hard), is_hint_row(three, hard, ((2, 1),)), is_hint_row(three, hard, ())
    ((), ((2, 1),), 1, True, False)
    >>> fewest_to_have(book, puzzle, 3)
    raises CanNot()
    >>> kept_away(book, made, 4)
    raises NoPlace(number=4)
"""
PUZZLE = (4, ((0, (0, 1)), (0, (0, 2)), (0, (1, 2)), (0, (2, 3))), ((0, 0),), ())
MADE = (4, PUZZLE[1], ((0, 0), (1, 1), (2, 2), (3, 0)), ())
SPOILT = (4, PUZZLE[1], ((0, 0), (1, 0), (2, 1), (3, 1)), ())
THREE = (2, True, ((2, ((0, 0), (0, 1), (1, 0))), (2, ((0, 1), (1, 0), (1, 1)))))
HARD = (3, ((0, (0, 1)), (1, (0, 1)), (1, (0, 2)), (1, (1, 2))), (), ())
TWO_HARD = (5, HARD[1] + ((1, (2, 3)), (1, (2, 4))), (), ())
UNALIKE = (2, True, ((2, ((0, 1), (1, 0))), (3, ((0, 0, 1), (0, 1, 0), (1, 0, 0)))))
ODD_RING = (3, ((0, (0, 1)), (0, (0, 2)), (0, (1, 2))), (), ())
BARE, ALONE, NOTHING = (2, True, ()), (1, True, ((2, ((0, 0),)), (1, ()))), (0, (), (), ())
PAIRS = [(UNLIKE, PUZZLE), (UNLIKE, MADE), (UNLIKE, SPOILT), (UNLIKE, LINE), (THREE, HARD), (UNALIKE, ODD_RING), (BARE, NOTHING),
         (BARE, (4, (), ((1, 0),), ())), (BARE, (3, (), ((0, 0), (1, 1), (2, 0)), ())), (ALONE, (2, ((0, (0, 1)),), ((0, 0),), ())),
         (ALONE, (1, ((1, (0,)),), (), ())), (THREE, (5, HARD[1] + ((1, (2, 3)), (1, (3, 4))), (), ())), (THREE, TWO_HARD),
         (THREE, (6, HARD[1] + ((0, (3, 4)), (1, (3, 4)), (1, (3, 5)), (1, (4, 5))), (), ())),
         (THREE, (3, ((1, (0, 1)), (1, (0, 2)), (1, (1, 2))), (), ())),
         (UNALIKE, (1, ((0, (0, 0)),), ((0, 1),), ())), (UNALIKE, (3, ((1, (0, 1, 2)),), ((0, 0), (1, 0)), ()))]


def tight_puzzle(dice, book):
    """A puzzle of the book with many ties, most of them such that one and the same tuple keeps them."""
    places = dice.randint(2, 5)
    row = tuple(dice.randrange(book[0]) for _ in range(places))
    ties = set()
    for _ in range(dice.randint(3, 14)):
        number = dice.randrange(len(book[2]))
        spots = tuple(dice.randrange(places) for _ in range(book[2][number][0]))
        if tuple(row[spot] for spot in spots) in book[2][number][1] or dice.random() < 0.03:
            ties.add((number, spots))
    told = [(place, row[place] if dice.random() < 0.8 else dice.randrange(book[0])) for place in range(places) if dice.random() < 0.35]
    return places, tuple(sorted(ties)), tuple(told), ()


def tight_pairs(seed, many):
    dice = random.Random(seed)
    found = []
    for _ in range(many):
        values = dice.choice((2, 2, 3))
        kinds = []
        for _ in range(dice.randint(1, 3)):
            rows = all_tuples(values, dice.choice((2, 2, 3)))
            kinds.append((len(rows[0]), tuple(sorted(dice.sample(rows, min(8, dice.randint(len(rows) // 2, len(rows) - 1)))))))
        book = (values, True, tuple(kinds))
        found.append((book, tight_puzzle(dice, book)))
    return found


PAIRS += [((book[0], True, book[2]), puzzle) for book, puzzle in some_puzzles(141, 130)] + tight_pairs(142, 160)
CASES = [(book, puzzle, all_settings(book, puzzle)) for book, puzzle in PAIRS]
FEW = [case for case in CASES if case[1][0] <= 5 and len(case[2]) <= 100]


def untold(puzzle):
    told = dict(puzzle[2])
    return [place for place in range(puzzle[0]) if place not in told]


def sets_of(members):
    """All sets of some of members, those with fewer ahead, the least ahead of those as great."""
    return [chosen for many in range(len(members) + 1) for chosen in itertools.combinations(members, many)]


def agreeing(settings, clues):
    return [row for row in settings if all(row[place] == value for place, value in clues)]


def clue_sets(book, puzzle):
    """All sets of clues of places that are not told, those with fewer ahead."""
    found = []
    for spots in sets_of(untold(puzzle)):
        found += [tuple(zip(spots, values)) for values in all_tuples(book[0], len(spots))]
    return sorted(found, key=lambda clues: (len(clues), clues))


def is_lean(settings, clues):
    if len(agreeing(settings, clues)) != 1:
        return False
    return not any(len(agreeing(settings, fewer)) == 1 for fewer in sets_of(clues)[:-1])


def told_with(puzzle, clues):
    return puzzle[0], puzzle[1], tuple(sorted({*puzzle[2], *clues})), puzzle[3]


def told_at(puzzle, spots):
    return puzzle[0], puzzle[1], tuple(pair for pair in puzzle[2] if pair[0] in spots), puzzle[3]


def sure_of(settings):
    return {(place, column[0]) for place, column in enumerate(zip(*settings)) if len(set(column)) == 1}


def seen_in(book, puzzle, settings):
    left = left_by_plain_strikes(book, puzzle)
    return {(place, values[0]) for place, values in enumerate(left) if len(values) == 1} if settings else set()


def hint_rows(book, puzzle, settings, ahead=()):
    """All hint rows that begin so."""
    hints = sorted(sure_of(settings) - seen_in(book, told_with(puzzle, ahead), settings))
    if not hints:
        return [ahead]
    return [row for hint in hints for row in hint_rows(book, puzzle, settings, ahead + (hint,))]


class ExamplesTest(unittest.TestCase):
    def test_examples(self):
        names = {name: part for name, part in vars(making).items() if not name.startswith("_")}
        self.assertEqual(check_examples(self, EXAMPLES, names), 7)


class EnoughTest(unittest.TestCase):
    def test_there_are_cases(self):
        many = [len(settings) for _, _, settings in CASES]
        self.assertGreater(many.count(0), 20)
        self.assertGreater(many.count(1), 20)
        self.assertGreater(len([1 for one in many if one > 3]), 80)

    def test_single_puzzles(self):
        for book, puzzle, settings in CASES:
            self.assertIs(making.is_single(book, puzzle), len(settings) == 1)

    def test_enough(self):
        dice, both = random.Random(1), set()
        for book, puzzle, settings in CASES:
            for setting in settings[:3]:
                for _ in range(4):
                    spots = tuple(place for place in range(puzzle[0]) if dice.random() < 0.5)
                    good = len(agreeing(settings, [(spot, setting[spot]) for spot in spots])) == 1
                    both.add(good)
                    self.assertIs(making.is_enough(book, puzzle, setting, spots), good)
        self.assertEqual(len(both), 2)

    def test_clues_of_a_setting(self):
        for book, puzzle, settings in CASES:
            for setting in settings[:2] + settings[-1:]:
                sets = sets_of(untold(puzzle)) if len(settings) < 200 else []
                enough = [spots for spots in sets if len(agreeing(settings, [(spot, setting[spot]) for spot in spots])) == 1]
                lean = [spots for spots in enough if not any(set(other) < set(spots) for other in enough)]
                if sets:
                    self.assertEqual(making.fewest_clues(book, puzzle, setting), enough[0])
                    self.assertEqual(making.lean_clues(book, puzzle, setting), sorted(lean))

    def test_what_tells_all(self):
        for book, puzzle, settings in CASES:
            if len(settings) < 200:
                sets = sets_of(range(puzzle[0]))
                good = [spots for spots in sets if len({tuple(row[spot] for spot in spots) for row in settings}) == len(settings)]
                self.assertEqual([spots for spots in sets if making.tells_all(book, puzzle, spots)], good)
                self.assertEqual(making.fewest_to_tell(book, puzzle), good[0])
                for setting in settings[:2]:
                    self.assertIs(making.is_enough(book, puzzle, setting, good[-1]), True)

    def test_many_settings(self):
        book, puzzle = (3, True, ()), (6, (), (), ())
        self.assertEqual(making.fewest_to_tell(book, puzzle), (0, 1, 2, 3, 4, 5))
        self.assertEqual(making.lean_clues(book, puzzle, (0,) * 6), [(0, 1, 2, 3, 4, 5)])
        self.assertEqual(making.how_many_lean(book, puzzle), 729)
        self.assertEqual(making.fewest_to_have(book, puzzle, 27), ((0, 0), (1, 0), (2, 0)))

    def test_how_many_lean(self):
        for book, puzzle, settings in FEW:
            lean = [clues for clues in clue_sets(book, puzzle) if is_lean(settings, clues)] if len(untold(puzzle)) < 5 else None
            if lean is not None:
                self.assertEqual(making.how_many_lean(book, puzzle), len(lean))

    def test_fewest_to_have(self):
        missing = 0
        for book, puzzle, settings in FEW:
            first = {}
            for clues in clue_sets(book, puzzle):
                first.setdefault(len(agreeing(settings, clues)), clues)
            for number in [-1, 0, 1, 2, 3, 4, len(settings), len(settings) + 1, HUGE, -HUGE]:
                if number in first:
                    self.assertEqual(making.fewest_to_have(book, puzzle, number), first[number], (book, puzzle, number))
                else:
                    missing += number in (0, 1, 2, 3)
                    check_refusal(self, "CanNot()", making.fewest_to_have, {"book": book, "puzzle": puzzle, "number": number})
        self.assertGreater(missing, 20)


class ToldTest(unittest.TestCase):
    def test_needless_and_kept_away(self):
        needless = away = 0
        for book, puzzle, settings in CASES:
            told = [place for place, _ in puzzle[2]]
            found = []
            for place in range(puzzle[0]):
                more = all_settings(book, told_at(puzzle, [other for other in told if other != place]))
                more = [row for row in more if row not in settings]
                self.assertEqual(making.kept_away(book, puzzle, place), more)
                away += bool(more)
                found += [place] if place in told and not more else []
            self.assertEqual(making.needless_told(book, puzzle), tuple(found))
            needless += bool(found)
        self.assertGreater(min(needless, away), 40)

    def test_reasons(self):
        long, refused = set(), 0
        for book, puzzle, settings in CASES:
            sure = dict(sure_of(settings))
            for place in range(puzzle[0]):
                if place not in sure:
                    refused += 1
                    check_refusal(self, "CanNot()", making.reason_for, {"book": book, "puzzle": puzzle, "place": place})
                    continue
                for spots in sets_of([spot for spot, _ in puzzle[2]]):
                    if (place, sure[place]) in sure_of(all_settings(book, told_at(puzzle, spots))):
                        break
                self.assertEqual(making.reason_for(book, puzzle, place), spots)
                long.add(len(spots))
        self.assertLessEqual({0, 1, 2}, long)
        self.assertGreater(refused, 50)

    def test_what_spoils(self):
        long, refused = set(), 0
        for book, puzzle, _ in CASES:
            told = [place for place, _ in puzzle[2]]
            good = [spots for spots in sets_of(told) if all_settings(book, told_at(puzzle, set(told) - set(spots)))]
            if good:
                self.assertEqual(making.spoilt_by(book, puzzle), good[0])
                long.add(len(good[0]))
            else:
                refused += 1
                check_refusal(self, "CanNot()", making.spoilt_by, {"book": book, "puzzle": puzzle})
        self.assertLessEqual({0, 1, 2}, long)
        self.assertGreater(refused, 5)


class HintsTest(unittest.TestCase):
    def test_seen_clues(self):
        for book, puzzle, settings in CASES:
            seen = seen_in(book, puzzle, settings)
            self.assertEqual(making.seen_clues(book, puzzle), tuple(sorted(seen)))
            self.assertLessEqual(seen, sure_of(settings) if settings else seen)

    def test_left_by_tries(self):
        less = 0
        for book, puzzle, settings in CASES:
            told, found = dict(puzzle[2]), []
            for place in range(puzzle[0]):
                values = [told[place]] if place in told else range(book[0])
                found.append(tuple(value for value in values if () not in left_by_plain_strikes(book, told_with(puzzle, [(place, value)]))))
            self.assertEqual(making.left_by_tries(book, puzzle), tuple(found))
            less += tuple(found) != left_by_plain_strikes(book, puzzle) and bool(settings)
            if strikes_decide(book):
                self.assertEqual(found, [tuple(sorted({row[place] for row in settings})) for place in range(puzzle[0])])
        self.assertGreater(less, 5)

    def test_hint_rows(self):
        long = []
        for book, puzzle, settings in CASES:
            rows = hint_rows(book, puzzle, settings)
            fewest, most = min(map(len, rows)), max(map(len, rows))
            sets = {tuple(sorted(row)) for row in rows if len(row) == fewest}
            self.assertEqual(making.fewest_hints(book, puzzle), min(sets))
            self.assertEqual(making.most_hints(book, puzzle), most)
            for row in rows[:6] + rows[-6:]:
                self.assertIs(making.is_hint_row(book, puzzle, row), True)
                self.assertIs(making.is_hint_row(book, puzzle, row + row[:1]), not row)
                self.assertIs(making.is_hint_row(book, puzzle, row[:-1]), not row)
            for clue in itertools.product(range(puzzle[0]), range(book[0])):
                self.assertIs(making.is_hint_row(book, puzzle, (clue,)), (clue,) in rows)
            for order in itertools.permutations(min(sets)):
                self.assertIn(order, rows)
            long.append((fewest, most))
        self.assertGreater(len([1 for fewest, most in long if most]), 10)
        self.assertTrue([1 for fewest, most in long if fewest > 1])
        self.assertTrue([1 for fewest, most in long if fewest < most])

    def test_without_settings(self):
        self.assertEqual(all_settings(UNALIKE, ODD_RING), [])
        self.assertEqual(making.seen_clues(UNALIKE, (3, ODD_RING[1], ((0, 0),), ())), ())
        self.assertIs(making.is_hint_row(UNALIKE, ODD_RING, ()), True)
        self.assertIs(making.is_hint_row(UNALIKE, ODD_RING, ((0, 1),)), False)
        self.assertEqual((making.fewest_hints(UNALIKE, ODD_RING), making.most_hints(UNALIKE, ODD_RING)), ((), 0))


class RefusalsTest(unittest.TestCase):
    def test_no_place(self):
        for number in (4, -1, HUGE, -HUGE):
            text, named = f"NoPlace(number={number})", {"book": UNLIKE, "puzzle": MADE}
            for function in (making.kept_away, making.reason_for):
                check_refusal(self, text, function, {**named, "place": number})
            spots = (number, 1) if number < 0 else (1, number)
            check_refusal(self, text, making.tells_all, {**named, "spots": spots})
            check_refusal(self, text, making.is_enough, {**named, "setting": (0, 1, 2, 0), "spots": spots})
        check_refusal(self, "NoPlace(number=-2)", making.tells_all, {"book": UNLIKE, "puzzle": MADE, "spots": (-2, -1, 9)})
        check_refusal(self, "NoPlace(number=4)", making.tells_all, {"book": UNLIKE, "puzzle": MADE, "spots": (3, 4, 9)})

    def test_no_place_is_ahead_of_what_can_not_be(self):
        check_refusal(self, "NoPlace(number=3)", making.reason_for, {"book": UNALIKE, "puzzle": ODD_RING, "place": 3})
        check_refusal(self, "CanNot()", making.reason_for, {"book": UNALIKE, "puzzle": ODD_RING, "place": 2})
        check_refusal(self, "NoPlace(number=0)", making.kept_away, {"book": BARE, "puzzle": NOTHING, "place": 0})


class CallsTest(unittest.TestCase):
    def test_calls(self):
        for book, puzzle in ((UNLIKE, PUZZLE), (UNLIKE, MADE), (THREE, HARD), (BARE, NOTHING)):
            named, setting = {"book": book, "puzzle": puzzle}, all_settings(book, puzzle)[0]
            for function in (making.is_single, making.fewest_to_tell, making.needless_told, making.seen_clues, making.left_by_tries,
                             making.fewest_hints, making.most_hints, making.spoilt_by, making.how_many_lean):
                check_call(self, function, named)
            for function in (making.fewest_clues, making.lean_clues):
                check_call(self, function, {**named, "setting": setting})
            spots = tuple(range(puzzle[0]))[1:]
            check_call(self, making.is_enough, {**named, "setting": setting, "spots": spots})
            check_call(self, making.tells_all, {**named, "spots": spots})
            check_call(self, making.fewest_to_have, {**named, "number": 1})
            check_judge(self, making.is_hint_row, {**named, "thing": hint_rows(book, puzzle, all_settings(book, puzzle))[0]})
        for function in (making.kept_away, making.reason_for):
            check_call(self, function, {"book": UNLIKE, "puzzle": MADE, "place": 3})


class ThingsTest(Checked):
    def test_hint_rows(self):
        good = [((2, 1),)]
        bad = [(), ((2, 1), (2, 1)), ((2, 0),), ((2, True),), ((0, 1),), ((2, 1, 0),), ((2,),), (2, 1), ((2, None),), (("2", 1),), ((HUGE, 1),),
               ((2, -HUGE),), ((2, [1]),), ((-1, 1),), ((2, 1),) * 3000, (LONG,), "21", ([2, 1],), ((2, 2),)]
        self.check(lambda thing: making.is_hint_row(THREE, HARD, thing), good, bad + ODD)
        self.check(lambda thing: making.is_hint_row(listed(THREE), listed(HARD), thing), good, bad)
        rest = [thing for thing in bad + ODD if thing != ()]
        self.check(lambda thing: making.is_hint_row(BARE, NOTHING, thing), [()], rest)
        self.check(lambda thing: making.is_hint_row(UNALIKE, ODD_RING, thing), [()], rest)


if __name__ == "__main__":
    unittest.main()
