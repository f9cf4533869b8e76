"""[2]: functions with a parameter thing take things of all sorts, and raise nothing."""

import unittest

from blendworlds.books import is_book, is_kind, is_turn
from blendworlds.puzzles import is_puzzle, is_setting
from tests.helper import LINE, SMALL, UNLIKE, listed

HUGE = 10 ** 30
DEEP = ((((((((((((1,),),),),),),),),),),),)
LONG = tuple(range(5000))
ODD = [None, True, False, 0, 1, -1, 3, HUGE, -HUGE, "", "book", "x" * 5000, (), [], ((),), [()], ((), (), ()), [[]],
       ("a", "b", "c"), ("a", "b"), (None, None, None, None), (1, 2), (1, (2,)), (1, None), (None, ()), ((), 1), DEEP,
       listed(DEEP), LONG, listed(LONG), (LONG, LONG, LONG), (1, LONG), (2, True, LONG), (3, LONG, (), LONG), (1, "a"),
       (True, ()), (1, "", ""), (2, True, "ab"), (2, True, None), (2, (), ()), (1, ((0,), None)), (1, ((), (0,))),
       (1, (("a",), (0,))), (1, ((0,), 5)), (2, True, ((1, (([],),)),)), (2, True, ((1, [(0,)]),))]


class Checked(unittest.TestCase):
    """Checks each thing once as it is, once with lists in the place of all tuples: that is no such value."""

    def check(self, judge, good, bad):
        for thing in good:
            self.assertIs(judge(thing), True, repr(thing)[:200])
            if isinstance(thing, tuple) and thing:
                self.assertIs(judge(listed(thing)), False)
            for cut in range(len(thing)):
                one = thing[cut]
                if isinstance(one, tuple):
                    self.assertIs(judge(thing[:cut] + (list(one),) + thing[cut + 1:]), False, repr(thing)[:200])
        for thing in bad:
            self.assertIs(judge(thing), False, repr(thing)[:200])
            self.assertIs(judge(listed(thing)), False, repr(thing)[:200])


class KindThingsTest(Checked):
    def test_kinds(self):
        good = [(1, ()), (2, ()), (3, ()), (1, ((0,),)), (1, ((0,), (1,))), (2, ((0, 0), (1, 0))), (3, ((0, 1, 1),)),
                (2, ((0, 0), (0, 1), (1, 0), (1, 1)))]
        bad = [(0, ()), (4, ()), (-1, ()), (HUGE, ()), (True, ()), (1, ((2,),)), (1, ((-1,),)), (1, ((HUGE,),)),
               (1, ((1,), (0,))), (1, ((0,), (0,))), (2, ((0,),)), (2, ((0, 1, 0),)), (1, ((True,),)), (1, ((False,),)),
               (1, (0,)), (1, ((),)), (1, 0), (1, (), ()), (1,), ("1", ()), (1, "0"), (1, ("0",)), (1, (("0",),)),
               (2, ((0, 1), (0, 0))), (2, ((0, (1,)),)), (2, ((0, 0), [0, 1]))]
        self.check(lambda thing: is_kind(2, thing), good, bad + ODD)

    def test_kinds_of_other_numbers_of_values(self):
        self.assertIs(is_kind(1, (1, ((0,),))), True)
        self.assertIs(is_kind(1, (1, ((1,),))), False)
        self.assertIs(is_kind(HUGE, (2, ((0, HUGE - 1),))), True)
        self.assertIs(is_kind(HUGE, (2, ((0, HUGE),))), False)
        many_rows = tuple((one, other) for one in range(60) for other in range(60))
        self.assertIs(is_kind(60, (2, many_rows)), True)
        self.assertIs(is_kind(59, (2, many_rows)), False)


class BookThingsTest(Checked):
    def test_books(self):
        good = [SMALL, UNLIKE, (1, True, ()), (1, False, ()), (HUGE, False, ()), (4, True, ((1, ((3,),)),)),
                (2, False, ((1, ()),) * 50), (10, False, ((2, tuple((0, at) for at in range(10))),))]
        bad = [(0, True, ()), (-1, True, ()), (True, True, ()), (False, False, ()), (2, 1, ()), (2, 0, ()), (2, None, ()),
               (2, True), (2, True, (), ()), (2, True, (1,)), (2, True, ((1, ((2,),)),)), (2, True, ((2, ((1, 0), (0, 1))),)),
               (2, True, ((1, ((0,), (0,))),)), (2, True, (1, ())), (2, "True", ()), ("2", True, ()), (2, True, ((0, ()),)),
               (2, True, ((1, ()), None)), (2, True, ((1, ((True,),)),)), (None, True, ()), (-HUGE, True, ())]
        self.check(is_book, good, bad + ODD)


class TurnThingsTest(Checked):
    def test_turns(self):
        good = [(0, 1, 2), (2, 0, 1), (2, 1, 0), (0, 2, 1), (1, 0, 2), (1, 2, 0)]
        bad = [(0, 1), (0, 1, 2, 3), (0, 1, 1), (1, 2, 3), (-1, 0, 1), (0, True, 2), (False, 1, 2), (0, 1, None),
               (0, 1, "2"), (0, 1, (2,)), (0, 1, [2]), (0, 1, HUGE), "012", (0, 0, 3)]
        self.check(lambda thing: is_turn(UNLIKE, thing), good, bad + ODD)
        self.check(lambda thing: is_turn(listed(UNLIKE), thing), good, bad)

    def test_one_value(self):
        self.assertIs(is_turn((1, True, ()), (0,)), True)
        self.assertIs(is_turn((1, True, ()), (False,)), False)
        self.assertIs(is_turn((1, True, ()), ()), False)


class PuzzleThingsTest(Checked):
    def test_puzzles(self):
        good = [(0, (), (), ()), (1, (), (), ()), (HUGE, (), (), (0, HUGE - 1)), LINE, (2, ((0, (0, 1)),), ((0, 1),), (1, 1)),
                (1, ((0, (0, 0)),), ((0, 2),), (0,) * 40), (2, (), ((0, 0), (1, 0)), ()),
                (30, tuple((0, (at, at + 1)) for at in range(29)), (), ()), (HUGE, (), ((HUGE - 1, 2),), ())]
        bad = [(-1, (), (), ()), (True, (), (), ()), (False, (), (), ()), (0, (), (), (0,)), (1, (), (), (1,)),
               (1, (), (), (-1,)), (2, ((1, (0, 1)),), (), ()), (2, ((-1, (0, 1)),), (), ()), (2, ((0, (0,)),), (), ()),
               (2, ((0, (0, 1, 1)),), (), ()), (2, ((0, (0, 2)),), (), ()), (2, ((0, (-1, 0)),), (), ()),
               (2, ((0, (0, 1)), (0, (0, 1))), (), ()), (2, ((0, (1, 0)), (0, (0, 1))), (), ()), (2, (), ((0, 3),), ()),
               (2, (), ((0, -1),), ()), (2, (), ((2, 0),), ()), (2, (), ((0, 0), (0, 1)), ()), (2, (), ((1, 0), (0, 1)), ()),
               (2, (), ((0, 0), (0, 0)), ()), (2, ((True, (0, 1)),), (), ()), (2, ((0, (0, True)),), (), ()),
               (2, (), ((0, True),), ()), (2, (), ((False, 1),), ()), (2, (), (), (True,)), (2, (), (0, 1), ()),
               (2, (), ((0,),), ()), (2, (), ((0, 1, 2),), ()), (2, ((0, 0, 1),), (), ()), (2, ((0, 1),), (), ()),
               (2, (0, (0, 1)), (), ()), (2, (), ()), (2, (), (), (), ()), (2, None, (), ()), (2, (), None, ()),
               (2, (), (), None), ("2", (), (), ()), (2, "", (), ()), (2, (), "", ()), (2, (), (), ""), (2, (None,), (), ()),
               (2, (), (None,), ()), (2, (), (), (None,)), (2, ((0, None),), (), ()), (2, (("0", (0, 1)),), (), ()),
               (2, ((0, ("0", 1)),), (), ()), (2, (), (("0", 1),), ()), (2, ((HUGE, (0, 1)),), (), ())]
        self.check(lambda thing: is_puzzle(UNLIKE, thing), good, bad + ODD)
        self.check(lambda thing: is_puzzle(listed(UNLIKE), thing), good, bad)

    def test_told_places_of_a_book_that_is_not_telling(self):
        quiet = (3, False, UNLIKE[2])
        self.check(lambda thing: is_puzzle(quiet, thing), [(3, LINE[1], (), (0,))], [LINE, (1, (), ((0, 0),), ())])

    def test_lists_deep_within(self):
        for thing in ((2, ([0, (0, 1)],), (), ()), (2, ((0, [0, 1]),), (), ()), (2, (), ([0, 1],), ()),
                      (2, [(0, (0, 1))], (), ()), (2, (), [(0, 1)], ()), (2, (), (), [0])):
            self.assertIs(is_puzzle(UNLIKE, thing), False)

    def test_a_book_without_kinds(self):
        bare = (2, True, ())
        self.check(lambda thing: is_puzzle(bare, thing), [(2, (), ((1, 1),), ())], [(2, ((0, ()),), (), ()), LINE])


class SettingThingsTest(Checked):
    def test_settings(self):
        good = [(2, 0, 1), (2, 0, 2), (2, 1, 0), (2, 1, 2)]
        bad = [(2, 0, 0), (2, 2, 0), (0, 1, 0), (2, 0), (2, 0, 1, 0), (2, 0, True), (2, False, 1), (2, 0, 3), (2, -1, 1),
               (2, 0, None), (2, 0, "1"), (2, 0, (1,)), (2, 0, [1]), (2, HUGE, 0), "201", (2, 1, -HUGE)]
        self.check(lambda thing: is_setting(UNLIKE, LINE, thing), good, bad + ODD)
        self.check(lambda thing: is_setting(listed(UNLIKE), listed(LINE), thing), good, bad)

    def test_without_places(self):
        empty = (0, (), (), ())
        self.assertIs(is_setting(UNLIKE, empty, ()), True)
        for thing in ODD:
            if thing != ():
                self.assertIs(is_setting(UNLIKE, empty, thing), False, repr(thing)[:200])
        self.assertIs(is_setting(UNLIKE, empty, []), False)


if __name__ == "__main__":
    unittest.main()
