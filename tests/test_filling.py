"""Fillings: points 9 and 10, and point 1 as far as they go."""

import unittest

from oracles import (
    Dice, all_fillings, all_mays, copied, filled, is_filling, weightiest_by_places, weightiest_of_all,
)
from whistlebook.filling import fill, left_without, place_of, weightier


def stairs(count):
    """The match at place k may be taken by the referees k + 1 and k + 2."""
    return [[k + 1, k + 2] for k in range(count)]


class FillCase(unittest.TestCase):
    def assert_filling(self, may, given):
        self.assertTrue(is_filling(may, given), (may, given))

    def assert_filled(self, may, places=None):
        """Fills and holds what is told against all fillings, or against the told places."""
        before = copied(may)
        given = fill(may)
        self.assertEqual(may, before)
        self.assert_filling(may, given)
        if places is None:
            self.assertEqual(filled(given), weightiest_of_all(may), (may, given))
        else:
            self.assertEqual([place for place, has in enumerate(filled(given)) if has], list(places), (may, given))
        return given


class OrdinaryFillTest(FillCase):
    def test_no_match(self):
        self.assertEqual(fill([]), [])
        self.assertIs(type(fill([])), list)

    def test_one_match(self):
        self.assertEqual(fill([[]]), [None])
        self.assertEqual(fill([[7]]), [7])
        self.assertEqual(fill([[999]]), [999])
        self.assertIn(fill([[7, 3, 5]]), ([7], [3], [5]))

    def test_all_can_be_filled(self):
        self.assertEqual(fill([[7], [3], [5]]), [7, 3, 5])
        self.assertEqual(fill([[1, 2], [1]]), [2, 1])
        self.assertEqual(fill([[1, 2, 3], [1, 2], [1]]), [3, 2, 1])
        self.assertEqual(fill([[1], [1, 2], [1, 2, 3]]), [1, 2, 3])
        self.assert_filled([[4, 9], [9, 4], [9, 2]], (0, 1, 2))

    def test_not_all_can_be_filled(self):
        self.assertEqual(fill([[7], [7]]), [7, None])
        self.assertEqual(fill([[], [7]]), [None, 7])
        self.assertEqual(fill([[7], [], [7, 3]]), [7, None, 3])
        self.assert_filled([[1, 2], [2, 1], [1, 2], [3, 1]], (0, 1, 3))

    def test_the_lists_in_any_order(self):
        for may in ([[1, 2, 3], [1, 2], [1]], [[5, 9], [9, 5], [5, 9], [2, 9]]):
            dice = Dice(3)
            for _ in range(30):
                self.assert_filled([dice.mixed(numbers) for numbers in may])

    def test_every_small_may(self):
        for matches, referees in ((1, [1, 2, 3]), (2, [1, 2, 3]), (3, [3, 1, 2]), (4, [2, 1]), (4, [1, 3, 2])):
            for may in all_mays(matches, referees):
                given = fill(may)
                self.assert_filling(may, given)
                self.assertEqual(filled(given), weightiest_of_all(may), (may, given))

    def test_against_all_fillings_up_to_5_matches_and_6_referees(self):
        dice = Dice(1)
        for tenths in (1, 2, 3, 4, 5, 7):
            for _ in range(40):
                may = dice.may(1 + dice.throw(5), dice.mixed(range(1, 2 + dice.throw(6))), tenths)
                given = self.assert_filled(may)
                for rival in all_fillings(may):
                    self.assertFalse(weightier(rival, given), (may, given, rival))
                    self.assertLessEqual(sum(filled(rival)), sum(filled(given)), (may, given, rival))


class FillEdgesTest(FillCase):
    def test_20_matches_and_30_referees_all_of_whom_may_take_all(self):
        for referees in (list(range(1, 31)), list(range(999, 969, -1))):
            self.assert_filled([list(referees) for _ in range(20)], range(20))

    def test_20_matches_and_20_referees_all_of_whom_may_take_all(self):
        self.assert_filled([list(range(1, 21)) for _ in range(20)], range(20))

    def test_20_matches_and_19_referees_all_of_whom_may_take_all(self):
        self.assert_filled([list(range(1, 20)) for _ in range(20)], range(19))

    def test_20_matches_and_one_referee(self):
        self.assertEqual(fill([[7] for _ in range(20)]), [7] + [None] * 19)
        self.assertEqual(fill([[] for _ in range(19)] + [[7]]), [None] * 19 + [7])
        self.assertEqual(fill([[]] * 5 + [[7]] * 15), [None] * 5 + [7] + [None] * 14)

    def test_lists_that_are_all_empty(self):
        for count in (1, 2, 5, 20):
            self.assertEqual(fill([[] for _ in range(count)]), [None] * count)

    def test_stairs(self):
        for count in (2, 3, 10, 20):
            up = stairs(count)
            down = [[second, first] for first, second in up]
            for may in (up, down, up[::-1], down[::-1]):
                self.assert_filled(may, range(count))

    def test_stairs_where_one_more_match_moves_many(self):
        for count in (2, 3, 10, 19):
            for may in (stairs(count), [[second, first] for first, second in stairs(count)]):
                self.assertEqual(fill(may + [[1]]), list(range(2, count + 2)) + [1])
                self.assertEqual(fill(may + [[count + 1]]), list(range(1, count + 2)))
                self.assertEqual(fill([[1]] + may), list(range(1, count + 2)))

    def test_stairs_with_one_match_too_many(self):
        for count in (2, 3, 10, 18):
            may = stairs(count)
            self.assert_filled(may + [[1], [count + 1]], range(count + 1))
            self.assertEqual(fill([[1], [count + 1]] + may)[-1], None)

    def test_a_light_match_whose_only_referee_a_heavier_one_has(self):
        self.assertEqual(fill([[7], [7], [3]]), [7, None, 3])
        self.assertEqual(fill([[7, 3], [3], [7]]), [7, 3, None])
        self.assertEqual(fill([[7, 3], [7, 3], [3], [7]])[2:], [None, None])

    def test_a_heavy_match_whose_referee_is_changed_for_a_later_one(self):
        self.assertEqual(fill([[7, 3], [7]]), [3, 7])
        self.assertEqual(fill([[3, 7], [7]]), [3, 7])
        self.assertEqual(fill([[1, 2], [1, 3], [1]]), [2, 3, 1])
        self.assertEqual(fill([[1, 2], [2, 3], [1]]), [2, 3, 1])

    def test_a_heavy_match_goes_ahead_of_two_light_ones(self):
        # Filled are as many places as can be all the same: the light ones can't have more than what is left.
        self.assertEqual(fill([[1], [1, 2], [2]]), [1, 2, None])
        self.assertEqual(filled(fill([[1, 2], [1], [2]])), [True, True, False])

    def test_great_inputs_against_another_way(self):
        dice = Dice(5)
        for tenths in (1, 1, 2, 2, 3, 5, 9):
            for count in (12, 16, 20, 30):
                may = dice.may(20, dice.mixed(range(1, 1000))[:count], tenths)
                given = fill(may)
                self.assert_filling(may, given)
                self.assertEqual(filled(given), weightiest_by_places(may), (may, given))

    def test_somewhat_beyond_the_bounds(self):
        self.assert_filled([list(range(1, 41)) for _ in range(25)], range(25))


class FillApartTest(FillCase):
    MAY = [[7, 3], [7], [], [3, 5, 7]]

    def test_a_second_call_behind_a_change_of_the_first_ones_list(self):
        may = copied(self.MAY)
        first = fill(may)
        kept = list(first)
        first[0] = None
        first.append(9)
        self.assertEqual(may, self.MAY)
        second = self.assert_filled(may)
        self.assertIsNot(second, first)
        self.assertEqual(filled(second), filled(kept))

    def test_a_may_that_is_changed_afterwards_changes_nothing_that_was_told(self):
        may = copied(self.MAY)
        told = fill(may)
        kept = list(told)
        may[0].clear()
        may.pop()
        self.assertEqual(told, kept)

    def test_may_is_not_told_itself(self):
        may = []
        fill(may).append(7)
        self.assertEqual(may, [])
        self.assertEqual(fill([]), [])

    def test_equal_lists_and_one_list_many_times(self):
        numbers = [1, 2, 3]
        self.assert_filled([numbers, numbers, numbers, numbers], (0, 1, 2))
        self.assertEqual(numbers, [1, 2, 3])

    def test_the_argument_bears_its_name(self):
        self.assertEqual(fill(may=[[7]]), [7])


class LeftWithoutTest(unittest.TestCase):
    def assert_left(self, given, places):
        before = list(given)
        told = left_without(given)
        self.assertIs(type(told), list)
        self.assertEqual(told, places)
        self.assertEqual(given, before)

    def test_none_some_and_all(self):
        self.assert_left([], [])
        self.assert_left([7], [])
        self.assert_left([7, 3, 999], [])
        self.assert_left([None], [0])
        self.assert_left([None, 7], [0])
        self.assert_left([7, None], [1])
        self.assert_left([7, None, 3, None, None, 1], [1, 3, 4])
        self.assert_left([None, 7, None], [0, 2])
        self.assert_left([None] * 20, list(range(20)))
        self.assert_left(list(range(1, 21)), [])

    def test_every_choice_of_places(self):
        for choice in range(64):
            given = [None if choice >> k & 1 else k + 1 for k in range(6)]
            self.assert_left(given, [k for k in range(6) if choice >> k & 1])

    def test_fresh(self):
        given = [7, None, 3, None]
        told = left_without(given)
        told.append(5)
        told[0] = 9
        self.assertEqual(given, [7, None, 3, None])
        self.assertEqual(left_without(given), [1, 3])
        left_without([]).append(1)
        self.assertEqual(left_without([]), [])

    def test_a_filling_that_is_changed_afterwards(self):
        given = [7, None]
        told = left_without(given)
        given[0] = None
        self.assertEqual(told, [1])
        self.assertEqual(left_without(given), [0, 1])

    def test_the_argument_bears_its_name(self):
        self.assertEqual(left_without(given=[None]), [0])


class PlaceOfTest(unittest.TestCase):
    GIVEN = [7, None, 3, 999, None, 1]

    def test_the_first_a_middle_and_the_last_place(self):
        for number, place in ((7, 0), (3, 2), (999, 3), (1, 5)):
            with self.subTest(number=number):
                told = place_of(self.GIVEN, number)
                self.assertIs(type(told), int)
                self.assertEqual(told, place)
        self.assertEqual(place_of([5], 5), 0)

    def test_every_place_of_20(self):
        given = [100 - k for k in range(20)]
        for place in range(20):
            self.assertEqual(place_of(given, 100 - place), place)

    def test_one_who_stands_nowhere(self):
        for number in (2, 4, 5, 8, 998, 1000, 0, -1, 10 ** 30, -10 ** 30, 10 ** 60):
            with self.subTest(number=number):
                self.assertIsNone(place_of(self.GIVEN, number))
                self.assertIsNone(place_of([], number))
                self.assertIsNone(place_of([None, None], number))

    def test_asking_changes_nothing(self):
        given = list(self.GIVEN)
        place_of(given, 3)
        place_of(given, 4)
        self.assertEqual(given, self.GIVEN)

    def test_the_arguments_bear_their_names(self):
        self.assertEqual(place_of(given=[4, 7], number=7), 1)


class WeightierTest(unittest.TestCase):
    def assert_weightier(self, one, other):
        before = list(one), list(other)
        self.assertIs(weightier(one, other), True)
        self.assertIs(weightier(other, one), False)
        self.assertEqual((one, other), before)

    def assert_equally_weighty(self, one, other):
        self.assertIs(weightier(one, other), False)
        self.assertIs(weightier(other, one), False)

    def test_first_apart_at_the_first_a_middle_and_the_last_place(self):
        self.assert_weightier([7, None, None], [None, 7, 3])
        self.assert_weightier([7, 3, None], [7, None, 3])
        self.assert_weightier([7, 3, 1], [7, 3, None])
        self.assert_weightier([7], [None])

    def test_what_stands_behind_the_first_place_apart_does_not_count(self):
        self.assert_weightier([None, 7, None, None, None], [None, None, 1, 2, 3])
        self.assert_weightier([7] + [None] * 19, [None] + list(range(1, 20)))

    def test_other_referees_ahead_do_not_count(self):
        self.assert_weightier([1, 2, None, 5], [999, 1, None, None])
        self.assert_weightier([999, 1, None, 5], [1, 2, None, None])

    def test_other_referees_at_the_same_places(self):
        self.assert_equally_weighty([7, None, 3], [3, None, 7])
        self.assert_equally_weighty([1], [999])

    def test_equal_fillings(self):
        for given in ([], [None], [7], [7, None, 3], [None] * 20, list(range(1, 21))):
            self.assert_equally_weighty(given, list(given))

    def test_one_list_as_both(self):
        given = [7, None]
        self.assertIs(weightier(given, given), False)

    def test_every_two_choices_of_places(self):
        for first in range(16):
            for second in range(16):
                one = [8 + k if first >> k & 1 else None for k in range(4)]
                other = [9 - k if second >> k & 1 else None for k in range(4)]
                self.assertIs(weightier(one, other), filled(one) > filled(other))

    def test_the_arguments_bear_their_names(self):
        self.assertIs(weightier(one=[7], other=[None]), True)
        self.assertIs(weightier(other=[7], one=[None]), False)


if __name__ == "__main__":
    unittest.main()
