"""The questions: points 21, 22 and 23; that they change nothing, and that what they tell is fresh."""

import unittest

from seasons import HUGE, STRANGERS, SeasonCase, everything, mays, season_of
from whistlebook.errors import NoSuchMatch, NoSuchRound, NotDrawn, UnknownReferee

PEOPLE = [(11, 1, 90), (15, 5, 90), (19, 9, 1)]
RISING = [(1, 2, 1), (3, 4, 5), (5, 6, 9)]
OF_A_ROUND = ("matches", "goes", "left", "why", "chains")
NO_ROUNDS = (0, -1, 5, 6, 61, HUGE, -HUGE)


def season_under_way():
    """Round 1 is over, 11 fell out of it; round 2 is drawn up, 15 fell out of it; 11 is away in round 4."""
    season = season_of(4, 1, *PEOPLE)
    season.draw_up(RISING)
    season.away(1, 11)
    season.close()
    season.enrol(20, 9, 91)
    season.away(4, 11)
    season.draw_up([(7, 8, 5), (1, 9, 1), (3, 5, 9)])
    number = season.goes(2)[0]
    season.away(2, number)
    return season


class ToldTest(SeasonCase):
    def test_of_a_round_over(self):
        season = season_under_way()
        self.assertEqual(season.matches(1), RISING)
        self.assertEqual(season.goes(1), [15, 19, None])
        self.assertEqual([season.where(1, number) for number in (11, 15, 19, 20)], [None, 0, 1, None])
        self.assertEqual(season.left(1), [2])
        self.assertEqual(season.why(1), ([0, 1, 2], [15, 19]))
        self.assertEqual(season.chains(1), [(11, [(0, 15), (1, 19), (2, None)])])

    def test_of_the_round_at_hand(self):
        season = season_under_way()
        goes = season.goes(2)
        self.assertEqual(season.matches(2), [(7, 8, 5), (1, 9, 1), (3, 5, 9)])
        self.assertEqual([season.where(2, number) for number in goes if number is not None],
                         [place for place in range(3) if goes[place] is not None])
        self.assertEqual(season.left(2), [place for place in range(3) if goes[place] is None])
        self.assertEqual(len(season.chains(2)), 1)
        self.assert_weightiest(season)

    def test_may_in_the_order_of_enrolling(self):
        season = season_of(2, 0, (50, 5, 90), (3, 2, 90), (999, 9, 90), (1, 5, 90), (4, 5, 2))
        season.draw_up([(1, 2, 5), (3, 4, 1), (5, 6, 9), (1, 3, 6)])
        self.assertEqual(mays(season), [[50, 999, 1], [50, 3, 999, 1, 4], [999], [999]])
        season.away(1, 999)
        self.assertEqual(mays(season), [[50, 1], [50, 3, 1, 4], [], []])

    def test_may_and_reasons_say_the_same(self):
        season = season_under_way()
        for place in range(3):
            self.assertEqual(
                season.may(place),
                [number for number in season.referees() if season.reasons(number, place) == []],
            )

    def test_reasons_in_their_order(self):
        season = season_of(3, 2, (7, 5, 10))
        self.assertEqual(season.draw_up([(11, 12, 5)]), [7])
        season.close()
        season.away(2, 7)
        season.draw_up([(10, 11, 6), (11, 10, 5), (12, 13, 6), (10, 13, 6), (1, 2, 3), (12, 1, 1)])
        self.assertEqual([season.reasons(7, place) for place in range(6)], [
            ["away", "grade", "club", "met"], ["away", "club", "met"], ["away", "grade", "met"],
            ["away", "grade", "club"], ["away"], ["away", "met"],
        ])
        season.close()
        season.draw_up([(10, 11, 6), (11, 10, 5), (12, 13, 6), (10, 13, 6), (1, 2, 3), (12, 1, 1)])
        self.assertEqual([season.reasons(7, place) for place in range(6)], [
            ["grade", "club", "met"], ["club", "met"], ["grade", "met"], ["grade", "club"], [], ["met"],
        ])

    def test_is_away_of_every_round(self):
        season = season_under_way()
        fallen = season.chains(2)[0][0]
        for at in (1, 2, 3, 4):
            for number in (11, 15, 19, 20):
                expected = (at, number) in ((1, 11), (4, 11), (2, fallen))
                self.assertIs(season.is_away(at, number), expected)

    def test_referee(self):
        season = season_under_way()
        self.assertEqual([season.referee(number) for number in (11, 15, 19, 20)], [(1, 90), (5, 90), (9, 1), (9, 91)])
        self.assertIs(type(season.referee(11)), tuple)

    def test_where_at_place_0(self):
        season = season_of(1, 0, (7, 5, 10))
        season.draw_up([(1, 2, 3)])
        self.assertEqual(season.where(1, 7), 0)
        self.assertIs(type(season.where(1, 7)), int)

    def test_the_kinds(self):
        season = season_under_way()
        for at in (1, 2):
            self.assertEqual(
                [type(getattr(season, name)(at)) for name in OF_A_ROUND], [list, list, list, tuple, list])
            self.assertTrue(all(type(match) is tuple for match in season.matches(at)))
            self.assertEqual([type(part) for part in season.why(at)], [list, list])
            for fallen in season.chains(at):
                self.assertIs(type(fallen), tuple)
                self.assertIs(type(fallen[1]), list)
                self.assertTrue(all(type(step) is tuple for step in fallen[1]))
        self.assertIs(type(season.may(0)), list)
        self.assertIs(type(season.reasons(11, 0)), list)
        self.assertEqual([type(rows) for rows in season.facts()], [list])
        self.assertTrue(all(type(row) is tuple for row in season.facts()[0]))


class RefusalsTest(SeasonCase):
    def test_no_such_round(self):
        season = season_under_way()
        for at in NO_ROUNDS:
            for name in OF_A_ROUND:
                self.assert_refused(NoSuchRound, season, name, at)
            for number in (11, 500) + STRANGERS:
                self.assert_refused(NoSuchRound, season, "where", at, number)
                self.assert_refused(NoSuchRound, season, "is_away", at, number)

    def test_not_drawn_of_a_round(self):
        season = season_under_way()
        for at in (3, 4):
            for name in OF_A_ROUND:
                self.assert_refused(NotDrawn, season, name, at)
            for number in (11, 500) + STRANGERS:
                self.assert_refused(NotDrawn, season, "where", at, number)
        season.close()
        for at in (3, 4):
            for name in OF_A_ROUND:
                self.assert_refused(NotDrawn, season, name, at)

    def test_not_drawn_at_first(self):
        season = season_of(4, 1, *PEOPLE)
        for at in (1, 2, 3, 4):
            for name in OF_A_ROUND:
                self.assert_refused(NotDrawn, season, name, at)
            self.assert_refused(NotDrawn, season, "where", at, 11)
            self.assert_refused(NotDrawn, season, "where", at, 500)

    def test_where_of_an_unknown_one(self):
        season = season_under_way()
        for at in (1, 2):
            for number in STRANGERS + (1, 12, 999):
                self.assert_refused(UnknownReferee, season, "where", at, number)

    def test_is_away_of_an_unknown_one(self):
        season = season_under_way()
        for at in (1, 2, 3, 4):
            for number in STRANGERS + (1, 12, 999):
                self.assert_refused(UnknownReferee, season, "is_away", at, number)

    def test_referee_of_an_unknown_one(self):
        season = season_under_way()
        for number in STRANGERS + (1, 12, 999):
            self.assert_refused(UnknownReferee, season, "referee", number)

    def test_may_and_reasons_of_a_round_that_is_not_drawn_up(self):
        season = season_of(4, 1, *PEOPLE)
        for _ in range(2):
            for place in (0, 1, 2, 3, -1, HUGE, -HUGE):
                self.assert_refused(NotDrawn, season, "may", place)
                for number in (11, 500, 0, HUGE):
                    self.assert_refused(NotDrawn, season, "reasons", number, place)
            season.draw_up(RISING)
            season.close()

    def test_no_such_match(self):
        season = season_under_way()
        for place in (-1, -2, -3, -4, 3, 4, 19, 20, HUGE, -HUGE):
            self.assert_refused(NoSuchMatch, season, "may", place)
            for number in (11, 15, 19, 20):
                self.assert_refused(NoSuchMatch, season, "reasons", number, place)

    def test_no_such_match_in_a_round_with_no_match(self):
        season = season_of(4, 1, *PEOPLE)
        season.draw_up([])
        for place in (0, -1, 1, HUGE, -HUGE):
            self.assert_refused(NoSuchMatch, season, "may", place)
            self.assert_refused(NoSuchMatch, season, "reasons", 11, place)

    def test_an_unknown_one_ahead_of_no_such_match(self):
        season = season_under_way()
        for number in STRANGERS:
            for place in (0, 2, -1, 3, HUGE, -HUGE):
                self.assert_refused(UnknownReferee, season, "reasons", number, place)


class FreshTest(SeasonCase):
    def spoil(self, told):
        """Changes what is told and each list within it."""
        for part in told:
            if type(part) in (list, tuple):
                self.spoil(part)
        if type(told) is list:
            told.clear()
            told.extend([999, None, (0, 0), [5]])

    def assert_fresh(self, season, name, *arguments):
        before = everything(season)
        self.spoil(getattr(season, name)(*arguments))
        self.assertEqual(everything(season), before, name)

    def test_every_list_that_is_told(self):
        season = season_under_way()
        for name in ("deeds", "referees", "facts"):
            self.assert_fresh(season, name)
        for at in (1, 2):
            for name in OF_A_ROUND:
                self.assert_fresh(season, name, at)
        for place in range(3):
            self.assert_fresh(season, "may", place)
            for number in (11, 15, 19, 20):
                self.assert_fresh(season, "reasons", number, place)

    def test_what_deeds_tell(self):
        season = season_of(3, 1, *PEOPLE)
        self.spoil(season.draw_up(RISING))
        self.assertEqual(season.goes(1), [11, 15, 19])
        self.spoil(season.away(1, 11))
        self.assertEqual(season.chains(1), [(11, [(0, 15), (1, 19), (2, None)])])
        self.assertEqual(season.goes(1), [15, 19, None])
        season.close()
        self.assertEqual(season.facts(), [[(1, 2, 1, 15), (3, 4, 5, 19), (5, 6, 9, None)]])

    def test_spoiled_lists_change_nothing_that_is_done_later(self):
        spoiled = season_under_way()
        untouched = season_under_way()
        for name in ("deeds", "referees", "facts"):
            self.spoil(getattr(spoiled, name)())
        for at in (1, 2):
            for name in OF_A_ROUND:
                self.spoil(getattr(spoiled, name)(at))
        for place in range(3):
            self.spoil(spoiled.may(place))
        for season in (spoiled, untouched):
            season.close()
            season.away(3, 20)
            season.draw_up(RISING)
        self.assertEqual(everything(spoiled), everything(untouched))

    def test_lists_told_earlier_stay_as_they_are(self):
        season = season_of(3, 1, *PEOPLE)
        season.draw_up(RISING)
        told = [getattr(season, name)(1) for name in OF_A_ROUND] + [season.deeds(), mays(season)]
        kept = [list(RISING), [11, 15, 19], [], ([], []), [], told[5][:], [[11, 15], [15, 19], [19]]]
        season.away(1, 11)
        season.away(1, 15)
        season.close()
        season.draw_up([])
        self.assertEqual(told, kept)

    def test_asking_changes_nothing(self):
        season = season_under_way()
        before = everything(season)
        for _ in range(3):
            self.assertEqual(everything(season), before)


if __name__ == "__main__":
    unittest.main()
