"""Drawing up, being away and falling out, closing, and how many deeds stand: points 16, 17, 18 and 20."""

import itertools
import unittest

from seasons import HUGE, STRANGERS, SeasonCase, asked, everything, mays, play_out, season_of
from whistlebook.errors import (
    AwayAlready, DrawnUp, KnownReferee, NoSuchRound, NotDrawn, OutOfRange, RoundOver, SameClub, SeasonOver,
    TooManyDeeds, TooManyMatches, TooManyReferees, UnknownReferee,
)
from whistlebook.season import Season

# Grades 1, 5 and 9, none of a club that plays below.
PEOPLE = [(11, 1, 90), (15, 5, 90), (19, 9, 90)]
# Only 19 may take the last one, only 15 and 19 the middle one, and all the first one.
RISING = [(1, 2, 1), (3, 4, 5), (5, 6, 9)]


def season_with_deeds(count):
    """A season of 60 rounds, not drawn up, in which so many deeds stand: three enrolled, the others away."""
    season = season_of(60, 1, *PEOPLE)
    for k in range(count - 3):
        season.away(2 + k // 3, PEOPLE[k % 3][0])
    return season


class DrawUpTest(SeasonCase):
    def test_what_is_told_and_can_be_asked(self):
        season = season_of(3, 1, *PEOPLE)
        self.assertEqual(season.draw_up(RISING), [11, 15, 19])
        self.assertEqual(season.matches(1), RISING)
        self.assertEqual(season.goes(1), [11, 15, 19])
        self.assertEqual([season.where(1, number) for number in (11, 15, 19)], [0, 1, 2])
        self.assertEqual(season.left(1), [])
        self.assertEqual(season.why(1), ([], []))
        self.assertEqual(season.chains(1), [])
        self.assertEqual(mays(season), [[11, 15, 19], [15, 19], [19]])
        self.assertEqual(season.deeds()[-1], ("draw up", 3, 1))
        self.assertEqual(season.at_hand(), 1)
        self.assertEqual(season.facts(), [])

    def test_a_round_with_no_match(self):
        for season in (Season(1, 0), season_of(1, 0, *PEOPLE)):
            self.assertEqual(season.draw_up([]), [])
            self.assertEqual(season.matches(1), [])
            self.assertEqual(season.goes(1), [])
            self.assertEqual(season.left(1), [])
            self.assertEqual(season.why(1), ([], []))
            self.assertEqual(season.chains(1), [])
            self.assertEqual(season.deeds()[-1], ("draw up", 0, 1))

    def test_no_referee(self):
        season = Season(1, 0)
        self.assertEqual(season.draw_up(RISING), [None, None, None])
        self.assertEqual(season.left(1), [0, 1, 2])
        self.assertEqual(season.why(1), ([0, 1, 2], []))

    def test_the_bars_are_kept(self):
        season = season_of(1, 0, (1, 5, 10), (2, 5, 20), (3, 3, 30))
        self.assertEqual(season.draw_up([(10, 20, 1), (10, 40, 4), (20, 41, 4), (42, 43, 4)]), [3, 2, 1, None])

    def test_the_weightiest_match_goes_first(self):
        season = season_of(1, 0, (1, 5, 10))
        self.assertEqual(season.draw_up([(1, 2, 6), (1, 2, 5), (1, 2, 1)]), [None, 1, None])
        self.assertEqual(season.left(1), [0, 2])

    def test_20_matches_and_30_referees(self):
        season = season_of(1, 0, *[(k, 9, 90) for k in range(1, 31)])
        told = season.draw_up([(2 * k + 1, 2 * k + 2, 9) for k in range(20)])
        self.assertEqual(len(set(told)), 20)
        self.assert_weightiest(season)

    def test_equal_matches_and_clubs_that_stand_more_than_once(self):
        season = season_of(1, 0, *PEOPLE)
        told = season.draw_up([(1, 2, 1), (1, 2, 1), (2, 1, 1), (1, 2, 1)])
        self.assertEqual(sorted(told[:3]), [11, 15, 19])
        self.assertIsNone(told[3])

    def test_refusals_of_the_matches(self):
        season = season_of(2, 1, *PEOPLE)
        self.assert_refused(TooManyMatches, season, "draw_up", [(1, 2, 3)] * 21)
        self.assert_refused(TooManyMatches, season, "draw_up", [(0, 0, 0)] * 21)
        for match in ((0, 1, 1), (1, 100, 1), (1, 2, 0), (1, 2, 10), (HUGE, 1, 1), (1, -HUGE, 1), (0, 0, 1)):
            self.assert_refused(OutOfRange, season, "draw_up", [(1, 2, 3), match])
            self.assert_refused(OutOfRange, season, "draw_up", [(5, 5, 3), match])
        self.assert_refused(SameClub, season, "draw_up", [(1, 2, 3), (5, 5, 3)])

    def test_drawn_up_already(self):
        season = season_of(2, 1, *PEOPLE)
        season.draw_up([])
        for matches in ([], RISING, [(1, 1, 1)], [(0, 1, 1)], [(1, 2, 3)] * 21):
            self.assert_refused(DrawnUp, season, "draw_up", matches)

    def test_season_over(self):
        season = play_out(season_of(2, 1, *PEOPLE), 2)
        for matches in ([], RISING, [(1, 1, 1)], [(0, 1, 1)], [(1, 2, 3)] * 21):
            self.assert_refused(SeasonOver, season, "draw_up", matches)

    def test_the_list_of_matches_stays_and_is_not_kept(self):
        season = season_of(2, 1, *PEOPLE)
        matches = list(RISING)
        told = season.draw_up(matches)
        self.assertEqual(matches, RISING)
        before = everything(season)
        matches.clear()
        told[0] = 999
        told.append(5)
        self.assertEqual(everything(season), before)


class AwayTest(SeasonCase):
    def test_in_a_round_ahead(self):
        for drawn in (False, True):
            season = season_of(3, 1, *PEOPLE)
            if drawn:
                season.draw_up(RISING)
            self.assertEqual(season.away(2, 15), [])
            self.assertEqual(season.away(3, 15), [])
            self.assertEqual([season.is_away(at, 15) for at in (1, 2, 3)], [False, True, True])
            self.assertEqual([season.is_away(at, 19) for at in (1, 2, 3)], [False] * 3)
            self.assertEqual(season.deeds()[-2:], [("away", 15, 2), ("away", 15, 3)])
            if drawn:
                self.assertEqual(season.goes(1), [11, 15, 19])
                self.assertEqual(season.chains(1), [])
                self.assertEqual(season.may(1), [15, 19])

    def test_barred_when_that_round_is_drawn_up(self):
        season = season_of(3, 0, *PEOPLE)
        season.away(2, 15)
        self.assertEqual(season.draw_up(RISING), [11, 15, 19])
        season.close()
        self.assertEqual(season.deeds(), [])
        self.assertEqual(season.draw_up(RISING), [11, 19, None])
        self.assertEqual(season.reasons(15, 0), ["away"])
        self.assertEqual(season.chains(2), [])
        season.close()
        self.assertEqual(season.draw_up(RISING), [11, 15, 19])

    def test_in_the_round_at_hand_ahead_of_its_drawing_up(self):
        season = season_of(3, 1, *PEOPLE)
        self.assertEqual(season.away(1, 11), [])
        self.assertEqual(season.deeds()[-1], ("away", 11, 1))
        self.assertEqual(season.draw_up(RISING), [15, 19, None])
        self.assertEqual(season.chains(1), [])
        self.assertEqual(season.reasons(11, 2), ["away", "grade"])

    def test_one_without_a_match_in_a_drawn_up_round(self):
        season = season_of(3, 1, *PEOPLE)
        season.draw_up([(1, 2, 1)])
        free = [number for number in (11, 15, 19) if number not in season.goes(1)]
        goes = season.goes(1)
        for number in free:
            self.assertEqual(season.away(1, number), [])
            self.assertEqual(season.goes(1), goes)
            self.assertEqual(season.chains(1), [])
            self.assertEqual(season.reasons(number, 0), ["away"])
            self.assertNotIn(number, season.may(0))
            self.assertIs(season.is_away(1, number), True)
        self.assertEqual(season.may(0), goes)

    def test_one_without_a_match_who_is_barred_otherwise_too(self):
        season = season_of(3, 1, (11, 1, 1))
        season.draw_up([(1, 2, 9)])
        self.assertEqual(season.away(1, 11), [])
        self.assertEqual(season.reasons(11, 0), ["away", "grade", "club"])
        self.assertEqual(season.left(1), [0])

    def test_falling_out_where_nobody_can_step_in(self):
        season = season_of(3, 1, *PEOPLE)
        season.draw_up(RISING)
        self.assertEqual(self.fall_out(season, 19), [(2, None)])
        self.assertEqual(season.goes(1), [11, 15, None])
        self.assertEqual(season.left(1), [2])
        self.assertEqual(season.why(1)[0][-1], 2)

    def test_falling_out_where_a_free_one_steps_in(self):
        season = season_of(3, 1, (1, 5, 90), (2, 5, 90))
        first = season.draw_up([(1, 2, 5)])[0]
        other = 3 - first
        self.assertEqual(self.fall_out(season, first), [(0, other)])
        self.assertEqual(season.goes(1), [other])
        self.assertEqual(self.fall_out(season, other), [(0, None)])
        self.assertEqual(season.chains(1), [(first, [(0, other)]), (other, [(0, None)])])
        self.assertEqual(season.why(1), ([0], []))

    def test_falling_out_where_a_lighter_match_is_left_without(self):
        season = season_of(3, 1, *PEOPLE)
        season.draw_up(RISING)
        self.assertEqual(self.fall_out(season, 11), [(0, 19), (2, None)])
        self.assertEqual(season.goes(1), [19, 15, None])
        self.assertEqual(season.where(1, 19), 0)
        self.assertEqual(season.left(1), [2])

    def test_falling_out_of_the_middle(self):
        season = season_of(3, 1, *PEOPLE)
        season.draw_up(RISING)
        self.assertEqual(self.fall_out(season, 15), [(1, 19), (2, None)])
        self.assertEqual(season.goes(1), [11, 19, None])

    def test_a_lighter_match_behind_three_steps(self):
        # 19 may not take the first match, by the club, so 15 goes there and 19 takes the match of 15.
        season = season_of(3, 1, (11, 1, 90), (15, 5, 90), (19, 9, 1))
        self.assertEqual(season.draw_up(RISING), [11, 15, 19])
        self.assertEqual(self.fall_out(season, 11), [(0, 15), (1, 19), (2, None)])
        self.assertEqual(season.goes(1), [15, 19, None])

    def test_a_lighter_match_behind_four_steps(self):
        # The fourth one may not take the first match by the club, and not the second one since they met.
        season = season_of(3, 1, (11, 1, 90), (13, 3, 90), (15, 5, 1), (19, 9, 1))
        self.assertEqual(season.draw_up([(3, 50, 9), (51, 52, 5)]), [19, 15])
        season.close()
        matches = [(1, 2, 1), (3, 4, 3), (5, 6, 5), (7, 8, 9)]
        self.assertEqual(season.draw_up(matches), [11, 13, 15, 19])
        self.assertEqual(self.fall_out(season, 11), [(0, 13), (1, 15), (2, 19), (3, None)])
        self.assertEqual(season.goes(2), [13, 15, 19, None])

    def test_a_free_one_behind_several_steps(self):
        # 1 and 2 may take the first match, 2 and 3 the second one, 3 and 4 the third one.
        people = [(1, 9, 3), (2, 9, 6), (3, 4, 90), (4, 1, 90)]
        matches = [(1, 2, 9), (3, 4, 4), (3, 6, 1)]
        lengths = []
        for order in itertools.permutations(people):
            season = season_of(1, 0, *order)
            goes = season.draw_up(matches)
            self.assertEqual([sorted(numbers) for numbers in mays(season)], [[1, 2], [2, 3], [3, 4]])
            self.assertNotIn(None, goes)
            steps = self.fall_out(season, goes[0])
            self.assertIsNotNone(steps[-1][1])
            self.assertEqual(season.left(1), [])
            lengths.append(len(steps))
        self.assertEqual(set(lengths), {1, 2, 3})

    def test_several_fallings_out_in_one_round(self):
        for order in itertools.permutations((1, 2, 3, 4, 5)):
            season = season_of(1, 0, *[(k, 2 * k - 1, 90) for k in (3, 1, 5, 2, 4)])
            season.draw_up([(1, 2, 3), (3, 4, 9), (5, 6, 1), (7, 8, 5)])
            fallen = []
            for number in order:
                if number in season.goes(1):
                    fallen.append((number, self.fall_out(season, number)))
                else:
                    self.assertEqual(season.away(1, number), [])
                self.assertEqual(season.chains(1), fallen)
                self.assert_weightiest(season)
            self.assertEqual(season.goes(1), [None] * 4)

    def test_no_such_round(self):
        season = season_of(3, 1, *PEOPLE)
        season.away(2, 15)
        for at in (0, -1, 4, 5, 61, HUGE, -HUGE):
            for number in (11, 15, 500) + STRANGERS:
                self.assert_refused(NoSuchRound, season, "away", at, number)

    def test_round_over(self):
        season = season_of(3, 1, *PEOPLE)
        season.away(1, 15)
        play_out(season, 2)
        for at in (1, 2):
            for number in (11, 15, 500) + STRANGERS:
                self.assert_refused(RoundOver, season, "away", at, number)
        self.assertEqual(season.away(3, 15), [])

    def test_unknown(self):
        season = season_of(3, 1, *PEOPLE)
        for number in STRANGERS + (12, 1, 999):
            for at in (1, 2, 3):
                self.assert_refused(UnknownReferee, season, "away", at, number)

    def test_away_already(self):
        season = season_of(3, 1, *PEOPLE)
        season.away(1, 15)
        season.away(2, 15)
        self.assert_refused(AwayAlready, season, "away", 1, 15)
        self.assert_refused(AwayAlready, season, "away", 2, 15)
        self.assertEqual(season.away(3, 15), [])
        self.assertEqual(season.away(1, 11), [])
        season.draw_up(RISING)
        self.assert_refused(AwayAlready, season, "away", 1, 15)
        self.fall_out(season, 19)
        self.assert_refused(AwayAlready, season, "away", 1, 19)

    def test_the_steps_told_are_fresh(self):
        season = season_of(3, 1, *PEOPLE)
        season.draw_up(RISING)
        told = season.away(1, 11)
        before = everything(season)
        told.clear()
        self.assertEqual(everything(season), before)
        none_told = season.away(2, 11)
        none_told.append((0, 1))
        self.assertEqual(season.away(3, 11), [])


class CloseTest(SeasonCase):
    def test_the_number_and_what_follows(self):
        season = season_of(3, 1, *PEOPLE)
        for at in (1, 2, 3):
            self.assertEqual(season.at_hand(), at)
            season.draw_up([])
            self.assertEqual(season.close(), at)
            self.assertEqual(season.deeds(), [])
            self.assertEqual(season.at_hand(), at + 1)
        self.assertEqual(season.facts(), [[], [], []])

    def test_the_round_that_follows_is_not_drawn_up(self):
        season = season_of(3, 1, *PEOPLE)
        season.draw_up(RISING)
        season.close()
        self.assertIs(asked(season.goes, 2), NotDrawn)
        self.assertIs(asked(season.may, 0), NotDrawn)
        season.enrol(20, 5, 5)
        self.assertEqual(season.referees(), [11, 15, 19, 20])

    def test_not_drawn(self):
        season = season_of(3, 1, *PEOPLE)
        self.assert_refused(NotDrawn, season, "close")
        play_out(season, 1)
        self.assert_refused(NotDrawn, season, "close")

    def test_season_over(self):
        self.assert_refused(SeasonOver, play_out(season_of(2, 1, *PEOPLE), 2), "close")
        self.assert_refused(SeasonOver, Season(0, 0), "close")

    def test_a_round_over_stays_as_it_stood(self):
        season = season_of(5, 0, *PEOPLE)
        season.draw_up(RISING + [(7, 8, 9)])
        self.fall_out(season, 11)
        names = ("matches", "goes", "left", "why", "chains")
        stood = {name: getattr(season, name)(1) for name in names}
        where = {number: season.where(1, number) for number in (11, 15, 19)}
        facts = [(*match, number) for match, number in zip(stood["matches"], stood["goes"])]
        season.close()

        def assert_as_it_stood():
            self.assertEqual({name: getattr(season, name)(1) for name in names}, stood)
            self.assertEqual({number: season.where(1, number) for number in (11, 15, 19)}, where)
            self.assertEqual(season.facts()[0], facts)

        assert_as_it_stood()
        season.enrol(20, 9, 91)
        season.enrol(21, 9, 91)
        assert_as_it_stood()
        self.assertIsNone(season.where(1, 20))
        for number in (15, 19):
            season.away(2, number)
            season.away(3, number)
        assert_as_it_stood()
        season.draw_up([(1, 2, 1)])
        season.away(2, 20)
        assert_as_it_stood()
        season.close()
        assert_as_it_stood()
        season.draw_up(RISING)
        season.take_back()
        assert_as_it_stood()

    def test_facts(self):
        season = season_of(3, 0, *PEOPLE)
        season.draw_up(RISING)
        self.assertEqual(season.facts(), [])
        season.away(1, 19)
        season.close()
        first = [(1, 2, 1, 11), (3, 4, 5, 15), (5, 6, 9, None)]
        self.assertEqual(season.facts(), [first])
        season.draw_up([(9, 8, 9)])
        self.assertEqual(season.facts(), [first])
        season.close()
        self.assertEqual(season.facts(), [first, [(9, 8, 9, 19)]])
        season.draw_up([])
        season.close()
        self.assertEqual(season.facts(), [first, [(9, 8, 9, 19)], []])


class MeetingsTest(SeasonCase):
    def test_as_many_rounds_as_the_told_number_says(self):
        for rest in range(11):
            season = season_of(13, rest, (7, 9, 90))
            season.draw_up([(1, 2, 1)])
            season.close()
            for behind in range(1, 13):
                with self.subTest(rest=rest, behind=behind):
                    expected = ["met"] if behind <= rest else []
                    self.assertEqual(season.draw_up([(3, 2, 1)]), [None if expected else 7])
                    self.assertEqual(season.reasons(7, 0), expected)
                    season.take_back()
                    season.draw_up([])
                    season.close()

    def test_who_fell_out_has_met_nobody_and_who_stepped_in_has(self):
        season = season_of(2, 1, (1, 5, 90), (2, 5, 90))
        first = season.draw_up([(1, 2, 5)])[0]
        self.fall_out(season, first)
        season.close()
        self.assertEqual(season.draw_up([(1, 3, 5), (2, 4, 5)]), [first, None])
        self.assertEqual([season.reasons(3 - first, place) for place in (0, 1)], [["met"], ["met"]])

    def test_only_who_took_the_match(self):
        season = season_of(2, 1, *PEOPLE)
        self.assertEqual(season.draw_up([(1, 2, 9), (5, 6, 5)]), [19, 15])
        season.close()
        season.draw_up([(1, 7, 1), (8, 6, 1)])
        self.assertEqual([season.reasons(19, place) for place in (0, 1)], [["met"], []])
        self.assertEqual([season.reasons(15, place) for place in (0, 1)], [[], ["met"]])
        self.assertEqual([season.reasons(11, place) for place in (0, 1)], [[], []])


class HowManyDeedsTest(SeasonCase):
    def test_the_100th_deed_is_taken_and_the_101st_refused(self):
        season = season_with_deeds(99)
        self.assertEqual(season.away(50, 11), [])
        self.assertEqual(len(season.deeds()), 100)
        self.assert_refused(TooManyDeeds, season, "away", 51, 11)
        self.assert_refused(TooManyDeeds, season, "away", 1, 11)
        self.assert_refused(TooManyDeeds, season, "enrol", 20, 5, 5)
        self.assert_refused(TooManyDeeds, season, "draw_up", RISING)
        self.assert_refused(TooManyDeeds, season, "draw_up", [])

    def test_each_kind_as_the_100th(self):
        season = season_with_deeds(99)
        season.enrol(20, 5, 5)
        self.assertEqual(season.deeds()[-1], ("enrol", 20, 1))
        self.assert_refused(TooManyDeeds, season, "draw_up", RISING)
        season.take_back()
        self.assertEqual(season.draw_up(RISING), [11, 15, 19])
        self.assertEqual(season.deeds()[-1], ("draw up", 3, 1))
        self.assert_refused(TooManyDeeds, season, "away", 1, 11)
        self.assert_refused(TooManyDeeds, season, "away", 60, 11)

    def test_what_else_refuses_goes_first(self):
        season = season_with_deeds(100)
        self.assert_refused(OutOfRange, season, "enrol", 0, 5, 5)
        self.assert_refused(KnownReferee, season, "enrol", 11, 5, 5)
        self.assert_refused(TooManyMatches, season, "draw_up", [(1, 2, 3)] * 21)
        self.assert_refused(OutOfRange, season, "draw_up", [(1, 2, 0)])
        self.assert_refused(SameClub, season, "draw_up", [(1, 1, 1)])
        self.assert_refused(NoSuchRound, season, "away", 0, 11)
        self.assert_refused(NoSuchRound, season, "away", 61, 11)
        self.assert_refused(UnknownReferee, season, "away", 1, 500)
        self.assert_refused(AwayAlready, season, "away", 2, 11)
        self.assert_refused(NotDrawn, season, "close")

    def test_a_full_roster_goes_first(self):
        season = season_of(60, 1, *[(k, 5, 5) for k in range(1, 31)])
        for k in range(70):
            season.away(2 + k // 30, 1 + k % 30)
        self.assertEqual(len(season.deeds()), 100)
        self.assert_refused(TooManyReferees, season, "enrol", 31, 5, 5)

    def test_drawn_up_and_round_over_go_first(self):
        season = play_out(season_of(60, 1, *PEOPLE), 1)
        season.draw_up(RISING)
        for k in range(99):
            season.away(3 + k // 3, PEOPLE[k % 3][0])
        self.assertEqual(len(season.deeds()), 100)
        self.assert_refused(DrawnUp, season, "enrol", 20, 5, 5)
        self.assert_refused(DrawnUp, season, "draw_up", RISING)
        self.assert_refused(RoundOver, season, "away", 1, 11)
        self.assert_refused(TooManyDeeds, season, "away", 2, 11)
        self.assertEqual(season.close(), 2)

    def test_taken_again_behind_a_taking_back(self):
        season = season_with_deeds(100)
        self.assert_refused(TooManyDeeds, season, "enrol", 20, 5, 5)
        season.take_back()
        self.assertIsNone(season.enrol(20, 5, 5))
        self.assert_refused(TooManyDeeds, season, "enrol", 21, 5, 5)

    def test_refused_and_taken_back_deeds_do_not_count(self):
        season = season_of(60, 1, *PEOPLE)
        for _ in range(120):
            season.away(2, 11)
            season.take_back()
            self.assertIs(asked(season.away, 0, 11), NoSuchRound)
        self.assertEqual(len(season.deeds()), 3)

    def test_the_round_that_follows_has_100_of_its_own(self):
        season = season_with_deeds(99)
        season.draw_up(RISING)
        season.close()
        self.assertEqual(season.deeds(), [])
        for k in range(70):
            season.away(36 + k // 3, PEOPLE[k % 3][0])
        self.assertEqual(len(season.deeds()), 70)


if __name__ == "__main__":
    unittest.main()
