"""[13]: moves and ways, what leads where, rests and pairs of values."""

import itertools
import random
import unittest

from blendworlds import moves
from tests.helper import LINE, MIXED, SMALL, UNLIKE, all_settings, check_call, check_examples, check_judge, check_raises, check_refusal
from tests.helper import listed, some_books, some_puzzles
from tests.plain import all_blends, all_puzzles, all_tuples, makes, pool
from tests.test_things import HUGE, LONG, ODD, Checked

EXAMPLES = """
    >>> climb, like, either = (2, True, ((2, ((0, 0), (0, 1), (1, 1))),)), (2, False, ((2, ((0, 0), (1, 1))),)), (2, False, ((2, ((0, 1), (1, 0), (1, 1))),))
    >>> row = (3, ((0, (0, 1)), (0, (1, 2))), (), ())
    >>> open_moves(climb, row, (0, 0, 1)), settings_along((0, 0, 0), ((2, 1), (1, 1))), turned_back((0, 0, 0), ((2, 1), (1, 1))), a_way(climb, row, (0, 0, 0), (0, 1, 1)), stuck_places(climb, row, (0, 0, 1))
    (((1, 1), (2, 0)), [(0, 0, 0), (0, 0, 1), (0, 1, 1)], ((1, 0), (2, 0)), ((2, 1), (1, 1)), (0,))
    >>> setting_parts(like, (2, ((0, (0, 1)),), (), ())), blended_way(climb, 2, (0, 0, 0, 1), ((0, 0, 0), (0, 1, 1)), (((2, 1), (1, 1)), ((0, 1),)))
    ([((0, 0),), ((1, 1),)], ((2, 1), (1, 1)))
    >>> gives_way(climb, 0, 1), gives_way(either, 0, 1), rests(climb), rests(either), pairs_left(like), leads_always(climb), leads_always(either)
    (False, True, [(0, 1)], [(1,)], 2, False, True)
    >>> blended_way(climb, 2, (0, 1, 1, 0), ((0, 0, 0), (0, 1, 1)), ((), ()))
    raises Unfit()
"""
CLIMB, LIKE = (2, True, ((2, ((0, 0), (0, 1), (1, 1))),)), (2, False, ((2, ((0, 0), (1, 1))),))
EITHER = (2, False, ((2, ((0, 1), (1, 0), (1, 1))),))
ROW, NOTHING = (3, ((0, (0, 1)), (0, (1, 2))), (), ()), (0, (), (), ())
BARE, QUIET, ALONE = (2, True, ()), (3, False, ()), (1, True, ((2, ((0, 0),)), (1, ())))
TWICE = (2, False, ((2, ((0, 0), (0, 1), (1, 1))), (3, ((0, 0, 0), (0, 0, 1), (1, 1, 0), (1, 1, 1)))))
PAIRS = [(CLIMB, ROW), (LIKE, ROW), (EITHER, ROW), (CLIMB, NOTHING), (ALONE, (2, ((0, (0, 1)),), ((0, 0),), ())),
         (ALONE, (1, ((1, (0,)),), (), ())), (BARE, (3, (), ((1, 0),), ())), (QUIET, (3, (), (), ())), (UNLIKE, LINE),
         (TWICE, (3, ((0, (0, 0)), (1, (1, 1, 2)), (0, (0, 2))), (), ())), (LIKE, (4, ((0, (0, 1)), (0, (2, 3))), (), ()))]
PAIRS += some_puzzles(131, 200)
CASES = [(book, puzzle, all_settings(book, puzzle)) for book, puzzle in PAIRS]
BOOKS = [CLIMB, LIKE, EITHER, UNLIKE, SMALL, MIXED, BARE, QUIET, ALONE, TWICE, (2, False, ()), (1, False, ()), (2, False, ((1, ()),)),
         (3, False, UNLIKE[2]), (3, False, ((2, ((0, 1), (1, 0), (1, 2), (2, 1))),))] + some_books(132, 80)
# books of which pairs go just because others have gone, or to pairs that are none the other way round
BOOKS += [(3, True, ((2, ((0, 1), (0, 2), (1, 1), (1, 2), (2, 0), (2, 1))), (1, ((2,),)))), (3, True, ((2, ((0, 0), (0, 2), (1, 0), (2, 0), (2, 1))),)),
          (3, False, ((1, ((0,),)), (2, ((0, 2), (1, 1), (1, 2), (2, 1))))), (3, False, ((2, ((0, 2), (1, 0), (1, 1))), (2, ((0, 1),)))),
          (3, True, ((2, ((0, 1), (1, 1), (1, 2), (2, 0), (2, 1))), (1, ((0,), (1,))))), (3, True, ((2, ((0, 0), (1, 1), (2, 1))),)),
          (3, False, ((2, ((0, 0), (0, 1), (0, 2), (2, 0), (2, 2))), (2, ((1, 0), (1, 2), (2, 0))))), (3, True, ((2, ((0, 1), (0, 2), (1, 0), (1, 1), (2, 0))),)),
          (3, True, ((2, ((0, 0), (0, 1), (0, 2), (1, 1), (1, 2), (2, 1), (2, 2))),)), (3, True, ((2, ((0, 0), (1, 0), (2, 2))),))]
BOOKS += [(2, telling, tuple((2, rows) for rows in chosen)) for telling in (False, True) for chosen in itertools.combinations(
    [rows for many in range(5) for rows in itertools.combinations(all_tuples(2, 2), many)], 1)]


def plain_moves(settings, setting):
    """The open moves, by a look at all settings."""
    found = []
    for other in settings:
        unlike = [place for place in range(len(setting)) if setting[place] != other[place]]
        if len(unlike) == 1:
            found.append((unlike[0], other[unlike[0]]))
    return sorted(found)


def behind(setting, move):
    return setting[:move[0]] + (move[1],) + setting[move[0] + 1:]


def distances(settings, start):
    """How few moves lead from start to each setting to which some lead."""
    found, fresh = {start: 0}, [start]
    for setting in fresh:
        for move in plain_moves(settings, setting):
            if behind(setting, move) not in found:
                found[behind(setting, move)] = found[setting] + 1
                fresh.append(behind(setting, move))
    return found


def plain_end(settings, setting, way):
    """Where the way leads, None if it is none."""
    for move in way:
        if move not in plain_moves(settings, setting):
            return None
        setting = behind(setting, move)
    return setting


def random_way(dice, settings, setting, most):
    way = []
    for _ in range(dice.randint(0, most)):
        ways = plain_moves(settings, setting)
        if ways:
            way.append(dice.choice(ways))
            setting = behind(setting, way[-1])
    return tuple(way)


def plain_kinds(book):
    kinds = [rows for _, rows in book[2]]
    return kinds + [((value,),) for value in range(book[0])] if book[1] else kinds


def plain_gives(kinds, one, other):
    return all(row[:at] + (other,) + row[at + 1:] in rows for rows in kinds for row in rows for at in range(len(row)) if row[at] == one)


def plain_rests(kinds, left):
    """All rests from these values left, in all orders."""
    kinds = [[row for row in rows if set(row) <= set(left)] for rows in kinds]
    going = [one for one in left if any(one != other and plain_gives(kinds, one, other) for other in left)]
    if not going:
        return {tuple(left)}
    return set().union(*[plain_rests(kinds, [value for value in left if value != one]) for one in going])


def goes(kinds, lot, pair, aim):
    for rows in kinds:
        for one, other in itertools.product(rows, repeat=2):
            if not all(part in lot for part in zip(one, other)):
                continue
            for at in range(len(one)):
                if (one[at], other[at]) == pair:
                    if one[:at] + aim[:1] + one[at + 1:] not in rows or other[:at] + aim[1:] + other[at + 1:] not in rows:
                        return False
    return True


def pairs_gone(dice, kinds, rest):
    """How many unlike pairs are left, they going in some order."""
    kinds = [[row for row in rows if set(row) <= set(rest)] for rows in kinds]
    lot = set(itertools.product(rest, repeat=2))
    while True:
        going = [pair for pair in sorted(lot) if pair[0] != pair[1] and any(goes(kinds, lot, pair, aim) for aim in lot - {pair})]
        if not going:
            return len([pair for pair in lot if pair[0] != pair[1]])
        lot.remove(dice.choice(going))


class ExamplesTest(unittest.TestCase):
    def test_examples(self):
        names = {name: part for name, part in vars(moves).items() if not name.startswith("_")}
        self.assertEqual(check_examples(self, EXAMPLES, names), 4)


class MovesTest(unittest.TestCase):
    def test_there_are_cases(self):
        self.assertGreater(len([1 for _, _, settings in CASES if len(settings) > 4]), 60)
        self.assertTrue([1 for _, _, settings in CASES if not settings])

    def test_open_moves(self):
        for book, puzzle, settings in CASES:
            for setting in settings[:12]:
                found = plain_moves(settings, setting)
                self.assertEqual(moves.open_moves(book, puzzle, setting), tuple(found))
                for move in itertools.product(range(-1, puzzle[0] + 1), range(-1, book[0] + 1)):
                    self.assertIs(moves.is_move(book, puzzle, setting, move), move in found)
                going = {place for place, _ in found}
                stuck = tuple(place for place in range(puzzle[0]) if place not in going)
                self.assertEqual(moves.stuck_places(book, puzzle, setting), stuck)

    def test_frozen_settings(self):
        frozen = 0
        for book, puzzle, settings in CASES:
            if len(settings) < 200:
                found = [row for row in settings if not plain_moves(settings, row)]
                frozen += bool(found)
                self.assertEqual(moves.frozen_settings(book, puzzle), found)
        self.assertGreater(frozen, 20)
        self.assertEqual(moves.frozen_settings(CLIMB, NOTHING), [()])

    def test_ways(self):
        dice, told = random.Random(5), 0
        for book, puzzle, settings in CASES:
            for setting in dice.sample(settings, min(4, len(settings))):
                way = random_way(dice, settings, setting, 6)
                told += len(way) > 2
                self.assertIs(moves.is_way(book, puzzle, setting, way), True)
                along = moves.settings_along(setting, way)
                self.assertEqual(along, [setting] + [plain_end(settings, setting, way[:at + 1]) for at in range(len(way))])
                back = moves.turned_back(setting, way)
                self.assertEqual(moves.settings_along(along[-1], back), along[::-1])
                self.assertIs(moves.is_way(book, puzzle, along[-1], back), True)
                if puzzle[0]:
                    wrong = list(way) + [(0, 0)]
                    wrong.insert(dice.randint(0, len(way)), (dice.randrange(puzzle[0]), dice.randrange(book[0])))
                    wrong = tuple(wrong)
                    self.assertIs(moves.is_way(book, puzzle, setting, wrong), plain_end(settings, setting, wrong) is not None)
        self.assertGreater(told, 60)
        self.assertIs(moves.is_way(CLIMB, ROW, (0, 0, 0), ((2, 1), (2, 0)) * 2000), True)
        self.assertEqual(moves.settings_along((0, 1), ()), [(0, 1)])
        self.assertEqual(moves.turned_back((), ()), ())


class LeadsTest(unittest.TestCase):
    def test_from_setting_to_setting(self):
        dice, apart, far = random.Random(6), 0, 0
        for book, puzzle, settings in CASES:
            for one in dice.sample(settings, min(2, len(settings))):
                near = distances(settings, one)
                for other in dice.sample(settings, min(6, len(settings))) + [one]:
                    self.check(book, puzzle, settings, one, other, near.get(other))
                    apart, far = apart + (other not in near), far + (near.get(other, 0) > 2)
        self.assertGreater(apart, 20)
        self.assertGreater(far, 50)

    def check(self, book, puzzle, settings, one, other, few):
        self.assertEqual(moves.fewest_moves(book, puzzle, one, other), few)
        self.assertIs(moves.leads(book, puzzle, one, other), few is not None)
        way = moves.a_way(book, puzzle, one, other)
        if few is None:
            self.assertIsNone(way)
            self.assertIs(moves.is_fewest_way(book, puzzle, one, other, ()), False)
            return
        self.assertIsInstance(way, tuple)
        self.assertEqual((len(way), plain_end(settings, one, way)), (few, other))
        self.assertIs(moves.is_fewest_way(book, puzzle, one, other, way), True)
        for wrong in (way[:-1], way + way[-1:], way[::-1]):
            good = len(wrong) == few and plain_end(settings, one, wrong) == other
            self.assertIs(moves.is_fewest_way(book, puzzle, one, other, wrong), good)
        if moves.open_moves(book, puzzle, other):
            move = moves.open_moves(book, puzzle, other)[0]
            longer = way + (move,) + moves.turned_back(other, (move,))
            self.assertIs(moves.is_way(book, puzzle, one, longer), True)
            self.assertIs(moves.is_fewest_way(book, puzzle, one, other, longer), False)

    def test_a_way_that_goes_round(self):
        # all of a ring but one place are told of one another: the way is longer than the places that are unlike
        book, puzzle = (3, True, UNLIKE[2]), (2, ((0, (0, 1)),), (), ())
        self.assertEqual(moves.fewest_moves(book, puzzle, (0, 1), (1, 0)), 3)
        self.assertIs(moves.is_fewest_way(book, puzzle, (0, 1), (1, 0), ((0, 2), (1, 0), (0, 1))), True)
        self.assertIs(moves.is_fewest_way(book, puzzle, (0, 1), (1, 0), ((1, 2), (0, 1), (1, 0))), True)
        self.assertIs(moves.is_fewest_way(book, puzzle, (0, 1), (1, 0), ((1, 2), (0, 1))), False)

    def test_setting_parts(self):
        for book, puzzle, settings in CASES:
            if len(settings) < 200:
                left, found = set(settings), []
                while left:
                    part = set(distances(settings, min(left)))
                    left -= part
                    found.append(tuple(sorted(part)))
                self.assertEqual(moves.setting_parts(book, puzzle), sorted(found))
        self.assertEqual(moves.setting_parts(CLIMB, NOTHING), [((),)])


class BlendedWayTest(unittest.TestCase):
    def test_blended_ways(self):
        dice, told = random.Random(7), 0
        for book, puzzle, settings in CASES:
            for k in (1, 2, 3) if settings and len(settings) < 100 else ():
                if book[0] == 3 and k == 3 or book[0] > 1 and k == 3 and dice.random() < 0.5:
                    continue
                blend = moves_blend(dice, book, k)
                starts = tuple(dice.choice(settings) for _ in range(k))
                ways = tuple(random_way(dice, settings, start, 3) for start in starts)
                way = moves.blended_way(book, k, blend, starts, ways)
                self.assertEqual(way, plain_blended(book, blend, starts, ways))
                self.assertIs(moves.is_way(book, puzzle, makes(book, blend, starts), way), True)
                told += len(way) > 1
        self.assertGreater(told, 30)

    def test_blends_that_do_not_keep_the_book(self):
        for blend in all_tuples(2, 4):
            named = {"book": CLIMB, "k": 2, "blend": blend, "starts": ((0, 0, 0), (0, 1, 1)), "ways": (((2, 1),), ())}
            if blend in all_blends(CLIMB, 2):
                check_call(self, moves.blended_way, named)
            else:
                check_refusal(self, "Unfit()", moves.blended_way, named)
        # told places are blended, too
        check_raises(self, "Unfit()", moves.blended_way, BARE, 1, (1, 0), ((0,),), ((),))
        check_raises(self, "Unfit()", moves.blended_way, BARE, 1, (0, 0), ((0,),), (((0, 1),),))


def moves_blend(dice, book, k):
    found = all_blends(book, k) if book[0] ** k < 9 else [part for part in all_blends(book, 1)]
    if book[0] ** k < 9:
        return dice.choice(found)
    one, at = dice.choice(found), dice.randrange(k)
    return tuple(one[values[at]] for values in all_tuples(book[0], k))


def plain_blended(book, blend, starts, ways):
    """The way, by all the settings along all ways."""
    rows, found = list(starts), [makes(book, blend, starts)]
    for at, way in enumerate(ways):
        for move in way:
            rows[at] = behind(rows[at], move)
            found.append(makes(book, blend, rows))
    told = []
    for ahead, after in zip(found, found[1:]):
        told += [(place, after[place]) for place in range(len(after)) if after[place] != ahead[place]]
    return tuple(told)


class AlwaysTest(unittest.TestCase):
    def test_gives_way(self):
        both = set()
        for book in BOOKS:
            for one, other in itertools.product(range(book[0]), repeat=2):
                good = one != other and plain_gives(plain_kinds(book), one, other)
                both.add(good)
                self.assertIs(moves.gives_way(book, one, other), good, (book, one, other))
        self.assertEqual(len(both), 2)
        for one, other, number in ((2, 0, 2), (0, 2, 2), (-1, 5, -1), (1, HUGE, HUGE), (3, -1, 3), (5, 5, 5)):
            check_refusal(self, f"NoValue(number={number})", moves.gives_way, {"book": CLIMB, "one": one, "other": other})

    def test_rests(self):
        many = set()
        for book in BOOKS:
            found = sorted(plain_rests(plain_kinds(book), range(book[0])))
            self.assertEqual(moves.rests(book), found, book)
            self.assertEqual(len({len(rest) for rest in found}), 1)
            many.add(len(found))
        self.assertIn(3, many)

    def test_pairs_left(self):
        dice, seen = random.Random(8), set()
        for book in BOOKS:
            for rest in moves.rests(book):
                for _ in range(3):
                    self.assertEqual(moves.pairs_left(book), pairs_gone(dice, plain_kinds(book), rest), book)
            seen.add(moves.pairs_left(book))
            self.assertIs(moves.leads_always(book), moves.pairs_left(book) == 0)
        self.assertLessEqual({0, 2, 6}, seen)

    def test_by_many_puzzles(self):
        for book, puzzles in pool():
            if moves.leads_always(book):
                for puzzle, settings in puzzles[::4]:
                    if 1 < len(settings) < 100:
                        self.assertEqual(set(distances(settings, settings[0])), set(settings), (book, puzzle))

    def test_books_that_do_not_always_lead(self):
        # of each book of one kind of two columns of two values some puzzle of at most three places shows it
        for book in BOOKS[-32:]:
            puzzles = [puzzle for places in (1, 2) for puzzle in all_puzzles(book, places)]
            puzzles += [] if book[1] else all_puzzles(book, 3)
            apart = [1 for puzzle in puzzles if (settings := all_settings(book, puzzle))
                     and len(distances(settings, settings[0])) < len(settings)]
            self.assertIs(moves.leads_always(book), not apart, book)


class CallsTest(unittest.TestCase):
    def test_calls(self):
        for book, puzzle in ((CLIMB, ROW), (UNLIKE, LINE), (BARE, NOTHING)):
            setting = all_settings(book, puzzle)[0]
            other = all_settings(book, puzzle)[-1]
            way = moves.a_way(book, puzzle, setting, other) or ()
            named = {"book": book, "puzzle": puzzle, "setting": setting}
            for function in (moves.open_moves, moves.stuck_places):
                check_call(self, function, named)
            for function in (moves.setting_parts, moves.frozen_settings):
                check_call(self, function, {"book": book, "puzzle": puzzle})
            check_judge(self, moves.is_way, {**named, "thing": way})
            for function in (moves.settings_along, moves.turned_back):
                check_call(self, function, {"setting": setting, "way": way})
            named = {"book": book, "puzzle": puzzle, "one": setting, "other": other}
            for function in (moves.leads, moves.fewest_moves, moves.a_way):
                check_call(self, function, named)
            if moves.leads(book, puzzle, setting, other):
                check_judge(self, moves.is_fewest_way, {**named, "thing": way})
            for function in (moves.rests, moves.pairs_left, moves.leads_always):
                check_call(self, function, {"book": book})
        check_judge(self, moves.is_move, {"book": CLIMB, "puzzle": ROW, "setting": (0, 0, 1), "thing": (1, 1)})
        check_call(self, moves.gives_way, {"book": EITHER, "one": 0, "other": 1})
        check_call(self, moves.blended_way, {"book": CLIMB, "k": 2, "blend": (0, 0, 0, 1), "starts": ((0, 0, 0), (0, 1, 1)),
                                             "ways": (((2, 1), (1, 1)), ((0, 1),))})


class ThingsTest(Checked):
    def test_moves(self):
        good = [(1, 1), (2, 0)]
        bad = [(0, 0), (0, 1), (1, 0), (2, 1), (3, 0), (-1, 0), (1, 2), (1, -1), (True, 1), (1, True), (2, False), (1,), (1, 1, 1), (1, None),
               ("1", 1), (HUGE, 0), (2, -HUGE), ((1,), 1)]
        self.check(lambda thing: moves.is_move(CLIMB, ROW, (0, 0, 1), thing), good, bad + ODD)
        self.check(lambda thing: moves.is_move(listed(CLIMB), listed(ROW), [0, 0, 1], thing), good, bad)
        self.check(lambda thing: moves.is_move(CLIMB, NOTHING, (), thing), [], good + bad + ODD)

    def test_ways(self):
        good = [(), ((2, 0),), ((1, 1), (0, 1)), ((2, 0), (2, 1))]
        bad = [((0, 1),), ((2, 0), (2, 0)), ((1, 1), (True, 0)), ((1, 1), None), ((1, 1), ()), ((1, 1), (0, 1, 1)), (1, 1), ((1, True),),
               ((HUGE, 1),), ((1, 1), "01"), ((2, 0), (2, 1)) * 1000 + ((5, 5),), ((1, 1), [0, 1]), (LONG,)]
        rest = [thing for thing in ODD if thing != ()]
        self.check(lambda thing: moves.is_way(CLIMB, ROW, (0, 0, 1), thing), good, bad + rest)
        good, ends = [((1, 1), (0, 1))], [(), ((1, 1),), ((2, 0), (2, 1), (1, 1), (0, 1)), ((1, 1), (0, True))]
        self.check(lambda thing: moves.is_fewest_way(CLIMB, ROW, (0, 0, 1), (1, 1, 1), thing), good, bad + rest + ends)
        self.check(lambda thing: moves.is_fewest_way(CLIMB, ROW, (0, 0, 1), (0, 0, 1), thing), [()], bad + rest + good)
        self.check(lambda thing: moves.is_fewest_way(LIKE, ROW, (0, 0, 0), (1, 1, 1), thing), [], [()] + bad + rest)


if __name__ == "__main__":
    unittest.main()
