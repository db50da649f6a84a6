"""Chains: points 12 and 13, and point 1 as far as they go."""

import unittest

from oracles import (
    Dice, all_fillings, all_mays, apart, copied, fewest_apart, filled, is_chain, is_filling, keeps_point_13,
    promised_chains, weightiest_of_all,
)
from whistlebook.chains import chain, stepped
from whistlebook.filling import fill


def gaps(given):
    return [place for place, number in enumerate(given) if number is None]


class ChainCase(unittest.TestCase):
    def told(self, may, given, place):
        """The chain that is told, held against all that is promised of any chain."""
        may_before = copied(may)
        given_before = list(given)
        steps = chain(may, given, place)
        self.assertEqual(may, may_before)
        self.assertEqual(given, given_before)
        self.assertTrue(is_chain(may, given, place, steps), (may, given, place, steps))
        self.assertTrue(all(type(step) is tuple and len(step) == 2 for step in steps), steps)
        places = [step[0] for step in steps]
        referees = [step[1] for step in steps]
        self.assertEqual(len(set(places)), len(places), steps)
        self.assertEqual(len(set(referees)), len(referees), steps)
        return steps

    def assert_chain(self, may, given, place, steps):
        self.assertEqual(self.told(may, given, place), steps)

    def assert_promised(self, may, given, place):
        self.assertIn(self.told(may, given, place), promised_chains(may, given, place), (may, given, place))

    def assert_shortest(self, may, given, place):
        """Point 13 for inputs that are too great to go through all chains."""
        steps = self.told(may, given, place)
        self.assertTrue(keeps_point_13(may, given, place, steps), (may, given, place, steps))


class FreeRefereeTest(ChainCase):
    def test_a_free_referee_right_away(self):
        self.assert_chain([[7]], [None], 0, [(0, 7)])
        self.assert_chain([[7, 3], [7]], [None, 7], 0, [(0, 3)])
        self.assert_chain([[3, 7], [7]], [None, 7], 0, [(0, 3)])
        self.assert_chain([[7], [7, 3]], [7, None], 1, [(1, 3)])
        self.assertIn(self.told([[7, 3, 5]], [None], 0), ([(0, 7)], [(0, 3)], [(0, 5)]))

    def test_behind_two_steps(self):
        self.assert_chain([[7], [7, 3]], [None, 7], 0, [(0, 7), (1, 3)])
        self.assert_chain([[7, 3], [7]], [7, None], 1, [(1, 7), (0, 3)])
        self.assert_chain([[1], [1, 2], [2, 3]], [None, 1, 2], 0, [(0, 1), (1, 2), (2, 3)])

    def test_behind_three_steps(self):
        self.assert_chain([[1, 4], [2, 1], [2]], [1, 2, None], 2, [(2, 2), (1, 1), (0, 4)])
        self.assert_chain([[1], [9], [1, 2], [2, 5]], [None, 9, 1, 2], 0, [(0, 1), (2, 2), (3, 5)])

    def test_behind_many_steps(self):
        for count in (5, 12, 20):
            may = [[1]] + [[k, k + 1] for k in range(1, count)]
            given = [None] + list(range(1, count))
            self.assert_chain(may, given, 0, [(k, k + 1) for k in range(count)])
            mirrored = [numbers[::-1] for numbers in may[::-1]]
            steps = [(count - 1 - k, k + 1) for k in range(count)]
            self.assert_chain(mirrored, given[::-1], count - 1, steps)

    def test_the_shorter_one_of_two_ways(self):
        # By 1 the free referee 9 is behind three steps, by 4 behind two.
        for first in ([1, 4], [4, 1]):
            may = [first, [1, 2], [2, 9], [4, 9]]
            self.assert_chain(may, [None, 1, 2, 4], 0, [(0, 4), (3, 9)])
        for first in ([1, 4], [4, 1]):
            may = [first, [4, 9], [1, 2], [2, 9]]
            self.assert_chain(may, [None, 4, 1, 2], 0, [(0, 4), (1, 9)])

    def test_a_free_referee_here_ahead_of_one_behind_more_steps(self):
        for numbers in ([1, 9], [9, 1]):
            self.assert_chain([numbers, [1, 8]], [None, 1], 0, [(0, 9)])

    def test_two_ways_that_meet(self):
        may = [[1, 2], [1, 3], [2, 3], [3, 9]]
        self.assertIn(self.told(may, [None, 1, 2, 3], 0), (
            [(0, 1), (1, 3), (3, 9)], [(0, 2), (2, 3), (3, 9)],
        ))

    def test_a_free_referee_ahead_of_a_lighter_match(self):
        # The last match could be come to as well, but the chain ends at the free referee.
        self.assert_chain([[1, 2], [1, 9], [2]], [None, 1, 2], 0, [(0, 1), (1, 9)])

    def test_a_free_referee_who_may_take_no_match_that_can_be_come_to(self):
        self.assert_chain([[1], [1], [2, 9]], [None, 1, 2], 0, [(0, 1), (1, None)])


class NoFreeRefereeTest(ChainCase):
    def test_nobody_may_take_it(self):
        self.assert_chain([[]], [None], 0, [(0, None)])
        self.assert_chain([[], [7]], [None, 7], 0, [(0, None)])
        self.assert_chain([[], [7]], [None, None], 0, [(0, None)])
        self.assert_chain([[7], []], [7, None], 1, [(1, None)])

    def test_it_ends_at_the_match_least_in_weight(self):
        self.assert_chain([[1], [1]], [None, 1], 0, [(0, 1), (1, None)])
        self.assert_chain([[1, 2], [1], [2]], [None, 1, 2], 0, [(0, 2), (2, None)])
        self.assert_chain([[2, 1], [1], [2]], [None, 1, 2], 0, [(0, 2), (2, None)])
        self.assert_chain([[1], [1, 2], [2, 3], [3]], [None, 1, 2, 3], 0, [(0, 1), (1, 2), (2, 3), (3, None)])

    def test_least_in_weight_is_not_furthest_away(self):
        # By way of the last match a heavier one is come to last.
        self.assert_chain([[1], [2], [1, 2]], [None, 2, 1], 0, [(0, 1), (2, None)])
        self.assert_chain([[3], [2], [1, 2], [3, 1]], [None, 2, 1, 3], 0, [(0, 3), (3, None)])

    def test_by_as_few_steps_as_can_be(self):
        for first in ([1, 3], [3, 1]):
            self.assert_chain([first, [1, 2], [2, 3], [3]], [None, 1, 2, 3], 0, [(0, 3), (3, None)])
        for first in ([1, 4], [4, 1]):
            may = [first, [1, 2], [2, 3], [4, 3], [3]]
            self.assert_chain(may, [None, 1, 2, 4, 3], 0, [(0, 4), (3, 3), (4, None)])

    def test_nothing_lighter_can_be_come_to(self):
        self.assert_chain([[1], [1]], [1, None], 1, [(1, None)])
        self.assert_chain([[1], [2], [1, 2]], [1, 2, None], 2, [(2, None)])
        self.assert_chain([[1, 2], [2], [1, 2], [3]], [1, 2, None, 3], 2, [(2, None)])

    def test_matches_that_cannot_be_come_to_are_left_alone(self):
        self.assert_chain([[1], [1], [2], [3]], [None, 1, 2, 3], 0, [(0, 1), (1, None)])
        self.assert_chain([[], [1], [2]], [None, 1, 2], 0, [(0, None)])
        self.assert_chain([[1], [2], [1], [2, 9]], [None, 2, 1, None], 0, [(0, 1), (2, None)])

    def test_the_way_leads_over_heavier_matches(self):
        # From place 1 up to place 0, and only from there down to place 3.
        self.assert_chain([[1, 3], [1], [2], [3]], [1, None, 2, 3], 1, [(1, 1), (0, 3), (3, None)])


class EveryChainTest(ChainCase):
    def test_every_small_input(self):
        for matches, referees in ((1, [1, 2, 3]), (2, [2, 1, 3]), (3, [1, 2]), (3, [1, 3, 2])):
            for may in all_mays(matches, referees):
                for given in all_fillings(may):
                    for place in gaps(given):
                        self.assert_promised(may, given, place)

    def test_inputs_of_up_to_6_matches_and_7_referees(self):
        dice = Dice(11)
        for tenths in (1, 2, 3, 4, 6):
            for filling_tenths in (4, 7, 9, 10):
                for _ in range(40):
                    may = dice.may(2 + dice.throw(5), dice.mixed(range(1, 3 + dice.throw(6))), tenths)
                    given = dice.filling(may, filling_tenths)
                    for place in gaps(given):
                        self.assert_promised(may, given, place)

    def test_great_inputs(self):
        dice = Dice(12)
        for tenths in (1, 1, 2, 2, 3, 5):
            for count in (10, 16, 20, 30):
                may = dice.may(20, dice.mixed(range(1, 1000))[:count], tenths)
                for filling_tenths in (5, 9, 10):
                    given = dice.filling(may, filling_tenths)
                    for place in gaps(given):
                        self.assert_shortest(may, given, place)


class EdgesTest(ChainCase):
    def test_one_match_with_an_empty_list(self):
        self.assert_chain([[]], [None], 0, [(0, None)])

    def test_a_filling_that_is_no_weightiest_one(self):
        may = [[1, 2], [1], [2, 3]]
        for given in ([None, None, None], [None, None, 2], [None, 1, None], [None, 1, 3], [1, None, 3], [2, None, 3]):
            for place in gaps(given):
                self.assert_promised(may, given, place)
        self.assert_chain([[1], [1]], [None, None], 1, [(1, 1)])

    def test_none_at_other_places_too(self):
        self.assert_chain([[1], [1, 2], [2]], [None, 1, None], 0, [(0, 1), (1, 2)])
        self.assert_chain([[1], [1], [1]], [None, 1, None], 0, [(0, 1), (1, None)])
        self.assert_chain([[1], [1], [1]], [None, 1, None], 2, [(2, None)])
        self.assert_chain([[1], [9], [], [1]], [None, None, None, 1], 0, [(0, 1), (3, None)])

    def test_20_matches_and_30_referees_all_of_whom_may_take_all(self):
        may = [list(range(1, 31)) for _ in range(20)]
        for place in (0, 10, 19):
            given = list(range(1, 21))
            given[place] = None
            self.assertEqual(len(self.told(may, given, place)), 1)

    def test_20_matches_and_19_referees_all_of_whom_may_take_all(self):
        may = [list(range(1, 20)) for _ in range(20)]
        for place in range(19):
            given = list(range(1, 20))
            given.insert(place, None)
            self.assert_chain(may, given, place, [(place, given[19]), (19, None)])
        self.assert_chain(may, list(range(1, 20)) + [None], 19, [(19, None)])

    def test_20_matches_and_a_way_through_all_of_them(self):
        may = [[1]] + [[k, k + 1] for k in range(1, 19)] + [[19]]
        given = [None] + list(range(1, 20))
        self.assert_chain(may, given, 0, [(k, k + 1) for k in range(19)] + [(19, None)])
        self.assert_chain(may, given[1:] + [None], 19, [(19, None)])

    def test_the_first_and_the_last_place(self):
        self.assert_chain([[1], [2], [1, 9]], [None, 2, 1], 0, [(0, 1), (2, 9)])
        self.assert_chain([[1, 9], [2], [1]], [1, 2, None], 2, [(2, 1), (0, 9)])
        self.assert_chain([[1], [1], [2]], [None, 1, 2], 0, [(0, 1), (1, None)])
        self.assert_chain([[1], [2], [1, 2]], [1, 2, None], 2, [(2, None)])

    def test_numbers_1_and_999(self):
        self.assert_chain([[999], [999, 1]], [None, 999], 0, [(0, 999), (1, 1)])
        self.assert_chain([[1], [1, 999]], [None, 1], 0, [(0, 1), (1, 999)])

    def test_numbers_that_are_places_too(self):
        self.assert_chain([[1], [2], [1, 3]], [None, 2, 1], 0, [(0, 1), (2, 3)])
        self.assert_chain([[2, 1], [2, 1], [2]], [None, 1, 2], 0, [(0, 2), (2, None)])

    def test_the_arguments_bear_their_names(self):
        self.assertEqual(chain(may=[[7]], given=[None], place=0), [(0, 7)])
        self.assertEqual(stepped(given=[None], steps=[(0, 7)]), [7])


class SteppedTest(unittest.TestCase):
    def assert_stepped(self, given, steps, behind):
        given_before = list(given)
        steps_before = list(steps)
        told = stepped(given, steps)
        self.assertIs(type(told), list)
        self.assertEqual(told, behind)
        self.assertEqual(given, given_before)
        self.assertEqual(steps, steps_before)

    def test_one_step(self):
        self.assert_stepped([None], [(0, 7)], [7])
        self.assert_stepped([None], [(0, None)], [None])
        self.assert_stepped([3, None, 5], [(1, 7)], [3, 7, 5])
        self.assert_stepped([3, None, 5], [(1, None)], [3, None, 5])

    def test_more_steps_to_a_free_referee(self):
        self.assert_stepped([None, 1], [(0, 1), (1, 9)], [1, 9])
        self.assert_stepped([4, None, 1, 2, None], [(1, 1), (2, 2), (3, 9)], [4, 1, 2, 9, None])
        self.assert_stepped([1, 2, None], [(2, 2), (1, 1), (0, 4)], [4, 1, 2])

    def test_more_steps_to_a_match(self):
        self.assert_stepped([None, 1], [(0, 1), (1, None)], [1, None])
        self.assert_stepped([4, None, 1, 2, None], [(1, 1), (2, 2), (3, None)], [4, 1, 2, None, None])

    def test_20_steps(self):
        given = [None] + list(range(1, 20))
        self.assert_stepped(given, [(k, k + 1) for k in range(20)], list(range(1, 21)))
        ending = [(k, k + 1) for k in range(19)] + [(19, None)]
        self.assert_stepped(given, ending, list(range(1, 20)) + [None])

    def test_the_places_beside_the_chain_keep_what_they_have(self):
        given = [10 + k for k in range(20)]
        given[6] = None
        self.assert_stepped(given, [(6, 13), (3, 9)], given[:3] + [9] + given[4:6] + [13] + given[7:])

    def test_fresh(self):
        given = [None, 1]
        steps = [(0, 1), (1, 9)]
        told = stepped(given, steps)
        told[0] = 5
        told.append(6)
        self.assertEqual(given, [None, 1])
        self.assertEqual(steps, [(0, 1), (1, 9)])
        self.assertEqual(stepped(given, steps), [1, 9])
        one_step = stepped([3, None], [(1, None)])
        self.assertEqual(one_step, [3, None])

    def test_what_is_told_is_never_what_was_handed_in(self):
        given = [3, None]
        self.assertIsNot(stepped(given, [(1, None)]), given)

    def test_a_filling_behind_each_chain(self):
        dice = Dice(21)
        for tenths in (1, 2, 3, 5):
            for _ in range(60):
                may = dice.may(5, [1, 2, 3, 4, 5, 6], tenths)
                given = dice.filling(may, 8)
                for place in gaps(given):
                    steps = chain(may, given, place)
                    behind = stepped(given, steps)
                    self.assertTrue(is_filling(may, behind))
                    self.assertEqual(behind, [dict(steps).get(k, number) for k, number in enumerate(given)])
                    more = 0 if steps[-1][1] is None else 1
                    self.assertEqual(sum(filled(behind)), sum(filled(given)) + more)


class FallingOutTest(unittest.TestCase):
    def test_a_weightiest_filling_with_a_gap_goes_on_to_a_weightiest_one(self):
        dice = Dice(31)
        for tenths in (2, 3, 4, 6):
            for _ in range(60):
                may = dice.may(5, [1, 2, 3, 4, 5, 6], tenths)
                ahead = fill(may)
                for place in range(5):
                    if ahead[place] is not None:
                        self.assert_goes_on(may, ahead, place)

    def assert_goes_on(self, may, ahead, place):
        fewer = [[number for number in numbers if number != ahead[place]] for numbers in may]
        gap = list(ahead)
        gap[place] = None
        behind = stepped(gap, chain(fewer, gap, place))
        self.assertTrue(is_filling(fewer, behind))
        self.assertEqual(filled(behind), weightiest_of_all(fewer))
        self.assertEqual(apart(ahead, behind), fewest_apart(fewer, ahead))


class ApartTest(unittest.TestCase):
    MAY = [[1], [1, 2], [2, 3]]
    GIVEN = [None, 1, 2]
    STEPS = [(0, 1), (1, 2), (2, 3)]

    def test_a_told_chain_that_is_changed_changes_nothing(self):
        may = copied(self.MAY)
        given = list(self.GIVEN)
        told = chain(may, given, 0)
        told.clear()
        self.assertEqual(may, self.MAY)
        self.assertEqual(given, self.GIVEN)
        again = chain(may, given, 0)
        self.assertEqual(again, self.STEPS)
        self.assertIsNot(again, told)

    def test_what_was_handed_in_and_is_changed_afterwards(self):
        may = copied(self.MAY)
        given = list(self.GIVEN)
        told = chain(may, given, 0)
        may[1].clear()
        given[1] = 9
        self.assertEqual(told, self.STEPS)

    def test_the_one_step_with_none_is_fresh_too(self):
        chain([[]], [None], 0).append((1, 2))
        self.assertEqual(chain([[]], [None], 0), [(0, None)])


if __name__ == "__main__":
    unittest.main()
