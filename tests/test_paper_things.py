"""[2]: the judges of blends, of puzzles that show something, and of strikes take things of all sorts, and raise nothing."""

import unittest

from blendworlds.blends import is_blend, is_broken
from blendworlds.leasts import is_least_blend, is_leastless, is_order
from blendworlds.pairs import is_pairs_paper
from blendworlds.showing import is_maker, is_parting_puzzle, is_showing_puzzle, is_stuck_puzzle
from blendworlds.spared import is_folding, is_unsolved, is_wanting
from blendworlds.strikes import is_left, is_strikes, is_strikes_to, is_undecided, sets_puzzle
from blendworlds.sums import is_sums_paper
from tests.helper import UNLIKE, listed
from tests.test_things import HUGE, LONG, ODD, Checked

BELOW, CLIMB = (2, False, ((2, ((0, 0), (0, 1), (1, 1))),)), (2, True, ((2, ((0, 0), (0, 1), (1, 1))),))
UNALIKE, RING, PATH = (2, False, ((2, ((0, 1), (1, 0))),)), (3, False, UNLIKE[2]), (3, False, ((2, ((0, 1), (1, 0), (1, 2), (2, 1))),))
ROW = (3, ((0, (0, 1)), (0, (1, 2))), ((0, 1),), ())
TRIANGLE = (3, ((0, (0, 1)), (0, (0, 2)), (0, (1, 2))), (), ())
# no puzzles, whatever is asked of one
NO_PUZZLES = [thing for thing in ODD] + [
    (2, ((0, (0, True)),), (), (0, 1)), (2, ((False, (0, 1)),), (), (0, 1)), (2, ((0, (0, 1)),), (), (0, True)),
    (True, (), (), (0, 0)), (2, ((0, (0, 2)),), (), (0, 1)), (2, ((1, (0, 1)),), (), (0, 1)), (2, ((0, (0,)),), (), (0, 1)),
    (2, ((0, (0, 1)), (0, (0, 1))), (), (0, 1)), (2, ((0, (1, 0)), (0, (0, 1))), (), (0, 1)), (2, (), ((0, 5),), (0, 1)),
    (2, (), (), (0, 2)), (2, (), (), (0, -1)), (-1, (), (), ()), (2, (), ()), (2, (), (), (), ()), (2, (), None, (0, 1)),
    (2, (), ((2, 0),), (0, 1)), (2, (), ((0, 0), (0, 1)), (0, 1)), (2, ((0, (0, 1), 0),), (), (0, 1)), ("2", (), (), ())]
MANY_TIES = tuple((0, (one, other)) for one in range(9) for other in range(9) if one < other)


class BlendThingsTest(Checked):
    def test_blends(self):
        bad = [(0, 1), (0, 1, 1, 1, 1), (0, 1, 1, 2), (0, 1, 1, -1), (0, 1, 1, True), (False, 1, 1, 1), (0, 1, 1, None),
               (0, 1, 1, "1"), (0, 1, 1, (1,)), (0, 1, 1, HUGE), "0111", ((0, 1), (1, 1)), (0, 1, 1, [1])]
        self.check(lambda thing: is_blend(CLIMB, 2, thing), [(0, 1, 1, 1), (0, 0, 0, 0), (1, 0, 1, 0)], bad + ODD)
        self.check(lambda thing: is_blend(listed(CLIMB), 2, thing), [(0, 1, 1, 1)], bad)
        self.check(lambda thing: is_blend(UNLIKE, 1, thing), [(0, 1, 2), (2, 2, 2)], [(0, 1), (0, 1, 3), (0, 1, 2, 0)] + ODD)
        self.check(lambda thing: is_blend(UNLIKE, 2, thing), [(0, 1, 2) * 3], [(0, 1, 2), (0, 1, 3) * 3] + ODD)
        self.check(lambda thing: is_blend(CLIMB, 3, thing), [(0, 1) * 4], [(0, 1) * 2, (0, 1) * 5, (True, 0) * 4] + ODD)
        self.check(lambda thing: is_blend((1, True, ()), 3, thing), [(0,)], [(), (1,), (False,), (0, 0)] + ODD)

    def test_broken_rows(self):
        book, most = (2, False, ((2, ((0, 0), (0, 1), (1, 0))),)), (0, 1, 1, 1)
        good = [((0, 1), (1, 0)), ((1, 0), (0, 1))]
        bad = [((0, 1), (0, 1)), ((0, 1),), ((0, 1), (1, 0), (0, 1)), ((0, 1), (1, 1)), ((0, True), (1, 0)), ((False, 1), (1, 0)),
               ((0, 1), (1, 0, 0)), ((0, 1), (1,)), ((0, 1), None), ((0, 1), "10"), ("01", "10"), ((0, 1), (HUGE, 0)),
               ((0, 1), (1, -1)), (0, 1, 1, 0), ((0, 1), (1, (0,))), ((), ()), ((0, 1), ()), (LONG, (1, 0))]
        self.check(lambda thing: is_broken(book, 2, most, 0, thing), good, bad + ODD)
        self.check(lambda thing: is_broken(listed(book), 2, list(most), 0, thing), good, bad)


class ShowingThingsTest(Checked):
    def test_makers(self):
        bad = [(0, 1, 1, 0), (1, 1, 1, 1), (0, 1, 0, 1), (0, 1), (0, 1, 1, True), (0, True, True, 1), (0, 1, 1, 1, 1), (0, 1, 1, 2)]
        self.check(lambda thing: is_maker(CLIMB, ((0, 1), (1, 0)), (1, 1), thing), [(0, 1, 1, 1)], bad + ODD)

    def test_parting_puzzles(self):
        good = [(2, ((0, (0, 1)),), (), (0, 1)), (5, ((0, (3, 1)),), (), (3, 1)), (9, ((0, (7, 8)),), (), (7, 8)),
                (HUGE, ((0, (5, HUGE - 1)),), (), (5, HUGE - 1))]
        bad = [(2, ((0, (1, 0)),), (), (0, 1)), (2, (), (), (0, 1)), (2, ((0, (0, 1)),), (), (0,)), (2, ((0, (0, 1)),), (), ()),
               (2, ((0, (0, 1)),), (), (0, 1, 1)), (2, ((0, (0, 1)),), (), (0, 0)), (2, ((0, (0, 1)),), ((0, 0),), (0, 1)),
               (9, MANY_TIES, (), (1, 0)), (HUGE, (), (), (0, HUGE - 1)), (2, (), (), (0,) * 500)]
        self.check(lambda thing: is_parting_puzzle(BELOW, ((0, 1),), (1, 0), thing), good, bad + NO_PUZZLES)
        self.check(lambda thing: is_parting_puzzle(listed(BELOW), [[0, 1]], [1, 0], thing), good, bad)
        self.check(lambda thing: is_parting_puzzle(CLIMB, ((0, 1),), (1, 1), thing), [(2, (), ((0, 0),), (0, 1))],
                   [(2, (), (), (0, 1)), (2, (), ((0, 1),), (0, 1)), (2, (), ((0, False),), (0, 1))] + NO_PUZZLES)

    def test_showing_puzzles(self):
        good = [(1, (), (), (0, 0)), (2, ((0, (0, 1)), (0, (1, 0))), (), (0, 1)), (HUGE, (), (), (HUGE - 1,) * 2)]
        bad = [(1, (), (), (0,)), (1, (), (), ()), (1, (), (), (0, 0, 0)), (2, (), (), (0, 1)), (1, (), ((0, 1),), (0, 0)),
               (2, (), (), (0,) * 500), (HUGE, (), (), (0, 1)), (2, ((0, (0, 1)),), ((0, 1), (1, 0)), (0, 0)), (1, (), (), (0, False))]
        self.check(lambda thing: is_showing_puzzle(CLIMB, ((0, 0), (1, 1)), thing), good, bad + NO_PUZZLES)

    def test_stuck_puzzles(self):
        good = [(2, ((0, (0, 1)),), ((0, 1), (1, 0)), ()), (3, ((0, (0, 1)), (0, (1, 2))), ((0, 1), (2, 0)), (0, 1)),
                (9, MANY_TIES, ((0, 1), (8, 0)), (0,) * 50), (HUGE, ((0, (0, 1)),), ((0, 1), (1, 0)), ())]
        bad = [ROW, (0, (), (), ()), (1, (), (), (0, 0)), (9, MANY_TIES, ((0, 0), (8, 1)), ()), (HUGE, (), ((HUGE - 1, 1),), ())]
        self.check(lambda thing: is_stuck_puzzle(CLIMB, thing), good, bad + NO_PUZZLES)


class SparedThingsTest(Checked):
    def test_wanting_puzzles(self):
        good = [TRIANGLE, (5, TRIANGLE[1], (), (0, 4)), (HUGE, TRIANGLE[1], (), ())]
        bad = [(3, TRIANGLE[1][:2], (), ()), (3, (), (), ()), (0, (), (), ()), (1, ((0, (0, 0)),), (), ()), (HUGE, (), (), ()),
               (9, MANY_TIES, (), ()), (3, TRIANGLE[1], ((0, 0),), ())]
        self.check(lambda thing: is_wanting(RING, (2,), thing), good, bad + NO_PUZZLES)
        self.check(lambda thing: is_wanting(UNLIKE, (2,), thing), [(3, (), ((1, 2),), ())], [(3, (), ((1, 1),), ()), (3, (), (), ())])

    def test_all_values_are_wanted_if_there_is_a_place(self):
        good = [(1, (), (), ()), (HUGE, (), (), ()), TRIANGLE]
        self.check(lambda thing: is_wanting(RING, (0, 1, 2), thing), good, [(0, (), (), ()), (1, ((0, (0, 0)),), (), ())] + NO_PUZZLES)
        self.check(lambda thing: is_wanting(RING, (), thing), [], good + [(0, (), (), ())] + NO_PUZZLES)

    def test_foldings(self):
        bad = [(0, 1, 1), (0, 1), (0, 1, 2, 0), (0, 1, True), (False, 1, 2), (0, 1, 3), (0, 1, -1), (0, 1, None), (0, 1, "2"), "012",
               (0, 1, HUGE), (0, 1, (2,)), (0, 1, [2]), (0, 0, 0)]
        self.check(lambda thing: is_folding(PATH, RING, thing), [(0, 1, 2), (0, 1, 0), (2, 0, 1)], bad + ODD)

    def test_unsolved_puzzles(self):
        good = [TRIANGLE, (4, TRIANGLE[1], (), (3, 3)), (HUGE, TRIANGLE[1], (), (HUGE - 1,))]
        bad = [(3, TRIANGLE[1][:2], (), ()), (0, (), (), ()), (9, MANY_TIES, (), ()), (3, TRIANGLE[1], ((0, 0),), ()), (HUGE, (), (), ())]
        for one, other in ((RING, PATH), (UNLIKE, PATH), (UNLIKE, (3, True, PATH[2]))):
            self.check(lambda thing: is_unsolved(one, other, thing), good, bad + NO_PUZZLES)


class StrikesThingsTest(Checked):
    def test_lefts(self):
        good = [((1,), (0, 1), (0, 1)), ((), (), ()), ((0,), (), (0, 1))]
        bad = [((1,), (0, 1)), ((1,), (0, 1), (0, 1), ()), ((1,), (1, 0), (0,)), ((1,), (0, 0), (0,)), ((2,), (0,), (0,)),
               ((-1,), (0,), (0,)), ((True,), (0,), (0,)), ((0, True), (0,), (0,)), (1, (0,), (0,)), ((1,), None, (0,)),
               ((1,), "01", (0,)), ((1,), ((0,),), (0,)), ((HUGE,), (0,), (0,)), ((0, None), (0,), (0,)), ((1,), LONG, ()), (0, 1, 1)]
        rest = [thing for thing in ODD if thing != ((), (), ())]
        self.check(lambda thing: is_left(CLIMB, ROW, thing), good, bad + rest)
        self.check(lambda thing: is_left(listed(CLIMB), listed(ROW), thing), good, bad)
        self.check(lambda thing: is_left(CLIMB, (0, (), (), ()), thing), [()], [thing for thing in ODD if thing != ()])

    def test_strikes(self):
        good = [(), ((0, 1, 0),), ((0, 1, 0), (1, 1, 0))]
        bad = [((1, 1, 0),), ((0, 1, 0), (0, 1, 0)), ((0, True, 0),), ((False, 1, 0),), ((0, 1, False),), ((0, 1),), ((0, 1, 0, 0),),
               ((0, 1, 0), None), ((0, 1, 0), ()), ((0, 1, "0"),), ("010",), (0, 1, 0), ((0, 1, (0,)),), ((HUGE, 1, 0),), ((0, HUGE, 0),),
               ((0, 1, -HUGE),), ((-2, 1, 0),), ((0, -1, 0),), ((0, 1, 0),) * 3000, ((0, 1, 0), [1, 1, 0]), ((0, 1, None),)]
        rest = [thing for thing in ODD if thing != ()]
        self.check(lambda thing: is_strikes(CLIMB, ROW, thing), good, bad + rest)
        self.check(lambda thing: is_strikes(listed(CLIMB), listed(ROW), thing), good, bad)
        good = [((0, 1, 0), (1, 1, 0))]
        bad = bad + [(), ((0, 1, 0),)]
        self.check(lambda thing: is_strikes_to(CLIMB, ROW, 2, 0, thing), good, bad + rest)
        self.check(lambda thing: is_strikes_to(CLIMB, ROW, 0, 0, thing), [()] + good, [((1, 1, 0),), ((0, True, 0),)] + rest)

    def test_undecided_puzzles(self):
        good = [TRIANGLE, (9, MANY_TIES, (), (0,) * 9), (HUGE, TRIANGLE[1], (), (HUGE - 1,)), (1, ((0, (0, 0)),), (), ()), (6, TRIANGLE[1], (), ())]
        bad = [(3, TRIANGLE[1][:2], (), ()), (0, (), (), ()), (HUGE, (), (), ()), ROW, sets_puzzle(UNALIKE)[:2] + (((0, 0),), ())]
        self.check(lambda thing: is_undecided(UNALIKE, thing), good, bad + NO_PUZZLES)
        told = (3, TRIANGLE[1], ((0, 0),), ())
        self.check(lambda thing: is_undecided((2, True, UNALIKE[2]), thing), good, [told] + NO_PUZZLES)


class LeastThingsTest(Checked):
    def test_orders(self):
        bad = [(0, 1), (0, 1, 2, 3), (0, 1, 1), (1, 2, 3), (-1, 0, 1), (0, True, 2), (False, 1, 2), (0, 1, None), (0, 1, "2"),
               (0, 1, (2,)), (0, 1, [2]), (0, 1, HUGE), "012"]
        self.check(lambda thing: is_order(RING, thing), [(0, 1, 2), (2, 0, 1), (1, 0, 2)], bad + ODD)
        self.check(lambda thing: is_order(listed(RING), thing), [(0, 1, 2)], bad)
        self.check(lambda thing: is_order((1, True, ()), thing), [(0,)], [(), (1,), (False,), (0, 0)] + ODD)

    def test_least_blends(self):
        bad = [(0, 1, 1, 1), (0, 0, 1, 1), (0, 0, 0), (0, 0, 0, 1, 1), (0, 0, 0, True), (False, 0, 0, 1), (0, 0, 0, 2), (0, 0, 0, None),
               (0, 0, 0, "1"), (0, 0, 0, (1,)), (0, 0, 0, HUGE), "0001", (0, 0, 0, -1), (0, 0, 0, 0)]
        self.check(lambda thing: is_least_blend(CLIMB, (0, 1), thing), [(0, 0, 0, 1)], bad + ODD)
        self.check(lambda thing: is_least_blend(BELOW, (0, 1), thing), [(0, 0, 0, 1), (0, 0, 0, 0)], bad[:-1] + ODD)
        self.check(lambda thing: is_least_blend(UNALIKE, (0, 1), thing), [], [(0, 0, 0, 1), (0, 0, 0, 0)] + bad + ODD)

    def test_leastless_puzzles(self):
        either = (2, True, ((2, ((0, 1), (1, 0), (1, 1))),))
        good = [(2, ((0, (0, 1)),), (), ()), (9, MANY_TIES, (), (0,) * 9), (HUGE, ((0, (0, HUGE - 1)),), (), ()),
                (4, ((0, (0, 1)),), ((3, 0),), ())]
        bad = [(2, ((0, (0, 1)),), ((0, 0),), ()), (0, (), (), ()), (1, (), (), ()), (1, ((0, (0, 0)),), (), ()), (HUGE, (), (), ()),
               (2, ((0, (0, 1)),), ((0, 0), (1, 0)), ())]
        self.check(lambda thing: is_leastless(either, (0, 1), thing), good, bad + NO_PUZZLES)
        self.check(lambda thing: is_leastless(either, (1, 0), thing), [], good + bad + NO_PUZZLES)


class PairThingsTest(Checked):
    def test_papers_of_pairs(self):
        bars = (2, True, ((3, ((0, 0, 1), (0, 1, 0), (1, 0, 0))),))
        three = (3, ((0, (0, 1, 2)),), (), (0, 1, 2))
        good = [(three, (0, 0, 0)), ((9, ((0, (8, 1, 2)),), (), (1, 2, 8, 8)), (0, 0, 0, 0)),
                ((HUGE, ((0, (0, 1, HUGE - 1)),), (), (0, 1, HUGE - 1)), (0, 0, 0))]
        bad = [(three, (0, 0, 1)), (three, (1, 1, 0)), (three, (0, 0)), (three, (0, 0, 0, 0)), (three, ()), (three, (0, 0, False)),
               (three, (0, 0, -1)), (three, (0, 0, 2)), (three, (0, 0, None)), (three, "000"), (three, 0), (three,), (three, (0, 0, 0), 0),
               (three, (0, 0, HUGE)), ((3, three[1], (), ()), ()), ((3, three[1], (), (0,)), (0,)), (((0, 0, 0)), three),
               ((3, three[1], (), (0, 0)), (0, 0)), ((1, ((0, (0, 0, 0)),), (), (0,)), (0,)), (three, LONG), (None, (0, 0, 0)),
               ((0, (), (), ()), ())]
        bad = bad + [(thing, row) for thing in NO_PUZZLES for row in ((0, 0), (0, 0, 0), ())]
        self.check(lambda thing: is_pairs_paper(bars, thing), good, bad + ODD)
        self.check(lambda thing: is_pairs_paper(CLIMB, thing), [], good + bad)


class SumThingsTest(Checked):
    def test_papers_of_sums(self):
        two, three = (2, ((0, (0, 1)),), (), ()), ((0, 0), (0, 1), (1, 1))
        good = [(two, three), (two, three[::-1]), ((2, ((0, (0, 1)),), (), (1, 1)), three)]
        bad = [(two, three[:2]), (two, three + three[:1]), (two, ((0, 0),) * 3), (two, ((0, 0), (0, 1), (1, 0))), (two, three, 0), (two,),
               (two, ((0, 0), (0, 1), (1, True))), (two, ((0, 0), (0, 1), (1, 1, 1))), (two, ((0, 0), (0, 1), None)), (two, None),
               (two, ((0, 0), (0, 1), "11")), (two, ((0, 0), (False, 1), (1, 1))), (two, (0, 0, 1)), (two, ((), (), ())), (two, LONG),
               (two, ((0, 0), (0, 1), (1, HUGE))), (two, ((0, 0), (0, 1), (1, -1))), (three, two), ((0, (), (), ()), ((), (), ())),
               ((2, ((0, (0, 1)),), ((0, 1),), ()), three), ((3, two[1], (), ()), three), ((HUGE, two[1], (), ()), three)]
        bad = bad + [(thing, rows) for thing in NO_PUZZLES for rows in (three, ((), (), ()), ())]
        self.check(lambda thing: is_sums_paper(CLIMB, thing), good, bad + ODD)
        self.check(lambda thing: is_sums_paper(BELOW, thing), good, bad + ODD)
        self.check(lambda thing: is_sums_paper(UNALIKE, thing), [], good + bad)


if __name__ == "__main__":
    unittest.main()
