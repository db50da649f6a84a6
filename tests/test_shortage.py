"""The shortage of point 11, and point 1 as far as it goes."""

import unittest

from oracles import Dice, all_fillings, all_mays, copied, filled, is_shortage
from whistlebook.filling import fill
from whistlebook.shortage import shortage


def fullest_fillings(may):
    """All fillings that fill as many matches as can be, the weightiest ones and the others."""
    fillings = all_fillings(may)
    most = max(sum(filled(given)) for given in fillings)
    return [given for given in fillings if sum(filled(given)) == most]


class ShortageCase(unittest.TestCase):
    def told(self, may, given):
        may_before = copied(may)
        given_before = list(given)
        told = shortage(may, given)
        self.assertEqual(may, may_before)
        self.assertEqual(given, given_before)
        self.assertTrue(is_shortage(may, given, told), (may, given, told))
        return told


class OrdinaryTest(ShortageCase):
    def test_none_left_without(self):
        for may, given in (([[7]], [7]), ([[7, 3], [7]], [3, 7]), ([[1, 2, 3], [4], [2, 3]], [2, 4, 3])):
            self.assertEqual(self.told(may, given), ([], []))

    def test_one_left_without(self):
        self.assertEqual(self.told([[]], [None]), ([0], []))
        self.assertEqual(self.told([[7], [7]], [7, None]), ([0, 1], [7]))
        self.assertEqual(self.told([[7], [7]], [None, 7]), ([0, 1], [7]))
        self.assertEqual(self.told([[7, 3], [7, 3], [3, 7]], [7, 3, None]), ([0, 1, 2], [3, 7]))
        self.told([[7], [5, 4], [7]], [7, 5, None])
        self.told([[1, 2], [2, 3], [1, 3], [1, 2, 3], [9]], [1, 2, 3, None, 9])

    def test_two_left_without(self):
        self.assertEqual(self.told([[], []], [None, None]), ([0, 1], []))
        self.assertEqual(self.told([[7], [7], [7]], [7, None, None]), ([0, 1, 2], [7]))
        self.assertEqual(self.told([[7], [7], [3], [3]], [7, None, 3, None]), ([0, 1, 2, 3], [3, 7]))
        self.assertEqual(self.told([[7], [], [7]], [7, None, None]), ([0, 1, 2], [7]))

    def test_many_left_without(self):
        self.assertEqual(self.told([[7, 3]] * 9, [7, 3] + [None] * 7), (list(range(9)), [3, 7]))
        self.told([[1]] * 4 + [[2]] * 4 + [[3, 4, 5]] * 2, [1] + [None] * 3 + [2] + [None] * 3 + [3, 5])

    def test_referees_who_have_matches_behind_more_steps(self):
        # The gap is at place 3; 1 and 2 reach on to 0 and 1, and by 3 to place 2.
        self.assertEqual(self.told([[1, 2], [2, 3], [3, 1], [1]], [2, 3, 1, None]), ([0, 1, 2, 3], [1, 2, 3]))

    def test_a_filling_that_is_no_weightiest_one(self):
        self.assertEqual(self.told([[7], [7], [7]], [None, None, 7]), ([0, 1, 2], [7]))
        self.told([[1, 2], [1], [2]], [None, 1, 2])
        self.told([[1, 2], [1], [2], [5]], [2, 1, None, 5])
        self.told([[1, 2], [1], [2], [5]], [1, None, 2, 5])

    def test_every_small_may_and_each_of_its_fullest_fillings(self):
        for matches, referees in ((1, [1, 2]), (2, [2, 1, 3]), (3, [1, 3, 2]), (4, [2, 1])):
            for may in all_mays(matches, referees):
                for given in fullest_fillings(may):
                    self.told(may, given)

    def test_mixed_inputs_of_up_to_5_matches_and_6_referees(self):
        dice = Dice(41)
        for tenths in (1, 2, 3, 4):
            for _ in range(40):
                may = dice.may(1 + dice.throw(5), dice.mixed([9, 3, 999, 1, 50, 4]), tenths)
                for given in fullest_fillings(may):
                    self.told(may, given)


class EdgesTest(ShortageCase):
    def test_no_match(self):
        self.assertEqual(self.told([], []), ([], []))

    def test_lists_that_are_all_empty(self):
        for count in (1, 2, 20):
            may = [[] for _ in range(count)]
            self.assertEqual(self.told(may, [None] * count), (list(range(count)), []))

    def test_20_matches(self):
        self.assertEqual(self.told([[7]] * 20, [None] * 19 + [7]), (list(range(20)), [7]))
        all_may = [list(range(30, 11, -1)) for _ in range(20)]
        self.assertEqual(self.told(all_may, list(range(12, 31)) + [None]), (list(range(20)), list(range(12, 31))))
        more_than_enough = [list(range(1, 31)) for _ in range(20)]
        self.assertEqual(self.told(more_than_enough, list(range(1, 21))), ([], []))
        stairs = [[1]] + [[k, k + 1] for k in range(1, 19)] + [[19]]
        self.assertEqual(self.told(stairs, list(range(1, 20)) + [None]), (list(range(20)), list(range(1, 20))))

    def test_20_mixed_matches(self):
        dice = Dice(42)
        short = 0
        for tenths in (1, 1, 2, 3):
            for count in (6, 12, 18, 24, 30):
                may = dice.may(20, dice.mixed(range(1, 1000))[:count], tenths)
                given = fill(may)
                self.told(may, given)
                short += None in given
        self.assertGreater(short, 5)

    def test_the_arguments_bear_their_names(self):
        self.assertEqual(shortage(may=[[7], [7]], given=[7, None]), ([0, 1], [7]))


class ApartTest(ShortageCase):
    def test_the_lists_told_are_fresh(self):
        may = [[7], [7]]
        given = [7, None]
        told = shortage(may, given)
        told[0].append(9)
        told[1].clear()
        self.assertEqual(may, [[7], [7]])
        self.assertEqual(given, [7, None])
        self.assertEqual(self.told(may, given), ([0, 1], [7]))

    def test_the_empty_lists_are_fresh_and_apart(self):
        told = shortage([[7]], [7])
        told[0].append(9)
        self.assertEqual(told, ([9], []))
        self.assertEqual(shortage([[7]], [7]), ([], []))

    def test_what_was_handed_in_and_is_changed_afterwards(self):
        may = [[7], [7]]
        given = [7, None]
        told = shortage(may, given)
        may[0].append(3)
        given[1] = 3
        self.assertEqual(told, ([0, 1], [7]))


if __name__ == "__main__":
    unittest.main()
