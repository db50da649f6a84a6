"""The lists of matches of points 4 and 5, and point 1 as far as they go."""

import unittest

from whistlebook.errors import OutOfRange, SameClub, TooManyMatches
from whistlebook.matches import checked

HUGE = 10 ** 60
WRONG_CLUBS = (0, 100, -5, -1, 101, 10 ** 40, -10 ** 40, HUGE, -HUGE)
WRONG_GRADES = (0, 10, -1, 11, 10 ** 30, -10 ** 30, HUGE, -HUGE)


def right_matches(count):
    """Matches that nothing refuses, with clubs in several of them."""
    return [(k % 7 + 1, k % 5 + 8, k % 9 + 1) for k in range(count)]


def with_match(matches, place, match):
    return matches[:place] + [match] + matches[place + 1:]


def out_of_range_matches():
    """Each has one value out of its range, or more of them."""
    found = [(club, 2, 5) for club in WRONG_CLUBS]
    found += [(1, club, 5) for club in WRONG_CLUBS]
    found += [(1, 2, grade) for grade in WRONG_GRADES]
    return found + [(0, 100, 5), (0, 2, 10), (1, 100, 0), (0, 100, 10), (-HUGE, HUGE, HUGE)]


class MatchesCase(unittest.TestCase):
    def assert_taken(self, matches):
        before = list(matches)
        told = checked(matches)
        self.assertIs(type(told), list)
        self.assertEqual(told, before)
        for match in told:
            self.assertIs(type(match), tuple)
        self.assertIsNot(told, matches)
        self.assertEqual(matches, before)

    def assert_refused(self, error, matches):
        before = list(matches)
        with self.assertRaises(error) as caught:
            checked(matches)
        self.assertIs(type(caught.exception), error)
        self.assertEqual(matches, before)


class OrdinaryTest(MatchesCase):
    def test_an_empty_list(self):
        self.assert_taken([])

    def test_one_match(self):
        self.assert_taken([(12, 30, 4)])

    def test_several_matches_are_told_in_their_order(self):
        self.assert_taken([(12, 30, 4), (3, 2, 9), (50, 60, 1), (2, 1, 7), (70, 80, 5)])
        self.assert_taken([(70, 80, 5), (2, 1, 7), (50, 60, 1), (3, 2, 9), (12, 30, 4)])

    def test_a_club_in_several_matches(self):
        self.assert_taken([(12, 30, 4), (12, 31, 4), (32, 12, 4), (30, 31, 2)])

    def test_the_same_two_clubs_the_other_way_round(self):
        self.assert_taken([(12, 30, 4), (30, 12, 4)])

    def test_equal_matches(self):
        self.assert_taken([(12, 30, 4), (5, 6, 7), (12, 30, 4), (12, 30, 4)])
        self.assert_taken([(12, 30, 4)] * 20)

    def test_a_grade_that_equals_a_club(self):
        self.assert_taken([(4, 5, 4), (4, 5, 5)])


class EdgesTest(MatchesCase):
    def test_20_matches_are_taken(self):
        self.assert_taken(right_matches(19))
        self.assert_taken(right_matches(20))

    def test_least_and_greatest_values_are_taken(self):
        for match in ((1, 50, 5), (99, 50, 5), (50, 1, 5), (50, 99, 5), (40, 50, 1), (40, 50, 9),
                      (1, 99, 1), (99, 1, 9)):
            with self.subTest(match=match):
                self.assert_taken([match])
                self.assert_taken(with_match(right_matches(20), 19, match))

    def test_every_club_and_every_grade_is_taken(self):
        for club in range(2, 100):
            self.assert_taken([(1, club, 5), (club, 1, 5)])
        self.assert_taken([(1, 2, grade) for grade in range(1, 10)])


class RefusalsTest(MatchesCase):
    def test_too_many(self):
        for count in (21, 22, 40):
            with self.subTest(count=count):
                self.assert_refused(TooManyMatches, right_matches(count))
        self.assert_refused(TooManyMatches, [(12, 30, 4)] * 21)

    def test_out_of_range_at_every_place(self):
        for match in out_of_range_matches():
            self.assert_refused(OutOfRange, [match])
            for count in (2, 5, 20):
                for place in range(count):
                    with self.subTest(match=match, count=count, place=place):
                        self.assert_refused(OutOfRange, with_match(right_matches(count), place, match))

    def test_the_same_club_at_every_place(self):
        for match in ((1, 1, 5), (99, 99, 5), (50, 50, 1), (7, 7, 9)):
            self.assert_refused(SameClub, [match])
            for count in (2, 5, 20):
                for place in range(count):
                    with self.subTest(match=match, count=count, place=place):
                        self.assert_refused(SameClub, with_match(right_matches(count), place, match))


class OrderOfRefusalsTest(MatchesCase):
    def test_too_many_ahead_of_out_of_range(self):
        for match in out_of_range_matches():
            for place in (0, 10, 19, 20):
                with self.subTest(match=match, place=place):
                    self.assert_refused(TooManyMatches, with_match(right_matches(21), place, match))

    def test_too_many_ahead_of_the_same_club(self):
        for place in (0, 10, 19, 20):
            with self.subTest(place=place):
                self.assert_refused(TooManyMatches, with_match(right_matches(21), place, (7, 7, 5)))

    def test_out_of_range_ahead_of_the_same_club_wherever_they_stand(self):
        for match in out_of_range_matches():
            for count in (2, 3, 20):
                matches = right_matches(count)
                for one, other in ((0, count - 1), (count - 1, 0), (0, 1), (1, 0), (count - 2, count - 1)):
                    with self.subTest(match=match, count=count, one=one, other=other):
                        both = with_match(with_match(matches, one, match), other, (7, 7, 5))
                        self.assert_refused(OutOfRange, both)

    def test_out_of_range_between_two_of_the_same_club(self):
        for match in out_of_range_matches():
            with self.subTest(match=match):
                self.assert_refused(OutOfRange, [(7, 7, 5), match, (8, 8, 5)])

    def test_out_of_range_ahead_of_the_same_club_in_one_match(self):
        for match in [(club, club, 5) for club in WRONG_CLUBS] + [(7, 7, grade) for grade in WRONG_GRADES]:
            with self.subTest(match=match):
                self.assert_refused(OutOfRange, [match])
                self.assert_refused(OutOfRange, [(1, 2, 3), match, (4, 5, 6)])
                self.assert_refused(OutOfRange, [(7, 7, 5), match])

    def test_all_three_at_once(self):
        for one, other in ((0, 20), (20, 0), (0, 1), (1, 0), (19, 20), (20, 19)):
            with self.subTest(one=one, other=other):
                both = with_match(with_match(right_matches(21), one, (0, 2, 5)), other, (7, 7, 5))
                self.assert_refused(TooManyMatches, both)
        self.assert_refused(TooManyMatches, [(0, 0, 0)] * 21)


class ApartTest(MatchesCase):
    def test_a_told_list_that_is_changed_changes_nothing(self):
        matches = [(12, 30, 4), (5, 6, 7)]
        told = checked(matches)
        told.append((1, 2, 3))
        told[0] = (8, 9, 1)
        self.assertEqual(matches, [(12, 30, 4), (5, 6, 7)])
        self.assertEqual(checked(matches), [(12, 30, 4), (5, 6, 7)])

    def test_a_list_that_is_changed_afterwards_changes_nothing_that_was_told(self):
        matches = [(12, 30, 4), (5, 6, 7)]
        told = checked(matches)
        matches.append((1, 2, 3))
        matches[0] = (8, 9, 1)
        self.assertEqual(told, [(12, 30, 4), (5, 6, 7)])

    def test_the_empty_list_is_a_fresh_one_too(self):
        checked([]).append((1, 2, 3))
        self.assertEqual(checked([]), [])

    def test_two_calls_tell_two_lists(self):
        matches = [(12, 30, 4)]
        self.assertIsNot(checked(matches), checked(matches))

    def test_a_refusal_leaves_nothing_behind(self):
        for error, matches in ((TooManyMatches, right_matches(21)), (OutOfRange, [(0, 2, 5)]), (SameClub, [(7, 7, 5)])):
            self.assert_refused(error, matches)
            self.assert_taken([(12, 30, 4)])


if __name__ == "__main__":
    unittest.main()
