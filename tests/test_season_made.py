"""How a season is made, and enrolling: points 14 and 15; seasons without a round at hand; seasons apart."""

import unittest

from seasons import HUGE, STRANGERS, SeasonCase, asked, everything, play_out, season_of
from whistlebook.errors import (
    DrawnUp, KnownReferee, NoSuchRound, NotDrawn, NothingToTakeBack, OutOfRange, RoundOver, SeasonOver,
    TooManyReferees, UnknownReferee,
)
from whistlebook.season import Season

PEOPLE = [(7, 5, 10), (3, 9, 20), (999, 1, 99)]


def full_people():
    return [(900 - 10 * k, k % 9 + 1, k % 99 + 1) for k in range(30)]


class MadeTest(SeasonCase):
    def test_what_is_taken(self):
        for rounds in (0, 1, 2, 59, 60):
            for rest in (0, 1, 9, 10):
                with self.subTest(rounds=rounds, rest=rest):
                    season = Season(rounds, rest)
                    self.assertEqual(season.at_hand(), 1)
                    self.assertIs(asked(season.goes, rounds + 1), NoSuchRound)
                    self.assertIs(asked(season.goes, rounds), NotDrawn if rounds else NoSuchRound)

    def test_what_is_refused(self):
        wrong_rounds = (-1, 61, -2, 62, HUGE, -HUGE)
        wrong_rests = (-1, 11, -2, 12, HUGE, -HUGE)
        pairs = [(rounds, 3) for rounds in wrong_rounds] + [(5, rest) for rest in wrong_rests]
        pairs += [(rounds, rest) for rounds in wrong_rounds for rest in wrong_rests]
        pairs += [(-1, 0), (0, -1), (61, 10), (60, 11)]
        for rounds, rest in pairs:
            with self.subTest(rounds=rounds, rest=rest):
                self.assertIs(asked(Season, rounds, rest), OutOfRange)

    def test_at_first(self):
        for rounds in (0, 1, 5, 60):
            season = Season(rounds, 2)
            self.assertEqual(season.at_hand(), 1)
            self.assertEqual(season.referees(), [])
            self.assertEqual(season.deeds(), [])
            self.assertEqual(season.facts(), [])
            self.assertIs(asked(season.take_back), NothingToTakeBack)

    def test_the_arguments_bear_their_names(self):
        season = Season(rounds=2, rest=1)
        season.enrol(number=7, grade=5, club=10)
        self.assertEqual(season.referee(number=7), (5, 10))
        self.assertEqual(season.away(at=2, number=7), [])
        self.assertIs(season.is_away(at=2, number=7), True)
        self.assertEqual(season.draw_up(matches=[(1, 2, 3)]), [7])
        self.assertEqual(season.matches(at=1), [(1, 2, 3)])
        self.assertEqual(season.goes(at=1), [7])
        self.assertEqual(season.where(at=1, number=7), 0)
        self.assertEqual(season.left(at=1), [])
        self.assertEqual(season.why(at=1), ([], []))
        self.assertEqual(season.chains(at=1), [])
        self.assertEqual(season.may(place=0), [7])
        self.assertEqual(season.reasons(number=7, place=0), [])


class EnrolTest(SeasonCase):
    def test_what_is_told_and_can_be_asked(self):
        season = Season(3, 1)
        for number, grade, club in PEOPLE:
            self.assertIsNone(season.enrol(number, grade, club))
        self.assertEqual(season.referees(), [7, 3, 999])
        self.assertEqual([season.referee(number) for number in (7, 3, 999)], [(5, 10), (9, 20), (1, 99)])
        self.assertEqual(season.deeds(), [("enrol", 7, 1), ("enrol", 3, 1), ("enrol", 999, 1)])
        for at in (1, 2, 3):
            self.assertEqual([season.is_away(at, number) for number in (7, 3, 999)], [False] * 3)

    def test_least_and_greatest_values(self):
        for person in ((1, 1, 1), (999, 9, 99), (1, 9, 50), (500, 1, 99)):
            season = season_of(1, 0, person)
            self.assertEqual(season.referees(), [person[0]])
            self.assertEqual(season.referee(person[0]), person[1:])

    def test_in_a_later_round(self):
        season = play_out(season_of(3, 1, *PEOPLE), 1)
        season.enrol(5, 4, 3)
        self.assertEqual(season.referees(), [7, 3, 999, 5])
        self.assertEqual(season.deeds(), [("enrol", 5, 2)])

    def test_out_of_range(self):
        for season in (Season(2, 1), season_of(2, 1, *PEOPLE), season_of(2, 1, *full_people())):
            for wrong in (0, -1, HUGE, -HUGE):
                self.assert_refused(OutOfRange, season, "enrol", wrong, 5, 5)
                self.assert_refused(OutOfRange, season, "enrol", 5, wrong, 5)
                self.assert_refused(OutOfRange, season, "enrol", 5, 5, wrong)
            self.assert_refused(OutOfRange, season, "enrol", 1000, 5, 5)
            self.assert_refused(OutOfRange, season, "enrol", 5, 10, 5)
            self.assert_refused(OutOfRange, season, "enrol", 5, 5, 100)

    def test_known(self):
        season = season_of(2, 1, *PEOPLE)
        self.assert_refused(KnownReferee, season, "enrol", 7, 5, 10)
        self.assert_refused(KnownReferee, season, "enrol", 999, 2, 3)
        self.assert_refused(OutOfRange, season, "enrol", 7, 0, 10)
        self.assert_refused(OutOfRange, season, "enrol", 7, 5, 100)
        play_out(season, 1)
        self.assert_refused(KnownReferee, season, "enrol", 7, 5, 10)

    def test_too_many(self):
        season = season_of(2, 1, *full_people())
        self.assertEqual(len(season.referees()), 30)
        self.assert_refused(TooManyReferees, season, "enrol", 1, 5, 5)
        self.assert_refused(KnownReferee, season, "enrol", 900, 5, 5)
        self.assert_refused(OutOfRange, season, "enrol", 1, 5, 0)
        play_out(season, 1)
        self.assert_refused(TooManyReferees, season, "enrol", 1, 5, 5)

    def test_drawn_up(self):
        season = season_of(2, 1, *PEOPLE)
        season.draw_up([(1, 2, 3)])
        self.assert_refused(DrawnUp, season, "enrol", 5, 5, 5)
        self.assert_refused(DrawnUp, season, "enrol", 0, 5, 5)
        self.assert_refused(DrawnUp, season, "enrol", 7, 5, 10)
        season.close()
        season.draw_up([])
        self.assert_refused(DrawnUp, season, "enrol", 5, 5, 5)
        full = season_of(2, 1, *full_people())
        full.draw_up([])
        self.assert_refused(DrawnUp, full, "enrol", 1, 5, 5)

    def test_season_over(self):
        for season in (play_out(season_of(2, 1, *PEOPLE), 2), Season(0, 0)):
            self.assert_refused(SeasonOver, season, "enrol", 5, 5, 5)
            self.assert_refused(SeasonOver, season, "enrol", HUGE, 5, 5)
            self.assert_refused(SeasonOver, season, "enrol", 7, 5, 10)


class NoRoundAtHandTest(SeasonCase):
    def assert_all_refused(self, season, rounds):
        """What is refused where all rounds are over, the season having so many."""
        self.assertEqual(season.at_hand(), rounds + 1)
        for matches in ([], [(1, 2, 3)], [(1, 1, 1)], [(0, 1, 1)], [(1, 2, 3)] * 21):
            self.assert_refused(SeasonOver, season, "draw_up", matches)
        self.assert_refused(SeasonOver, season, "close")
        self.assert_refused(NothingToTakeBack, season, "take_back")
        for place in (0, -1, 1, HUGE):
            self.assert_refused(NotDrawn, season, "may", place)
            for number in (7, 500, 0, HUGE):
                self.assert_refused(NotDrawn, season, "reasons", number, place)
        for at in (0, -1, rounds + 1, rounds + 2, HUGE, -HUGE):
            for number in (7, 500, 0, HUGE):
                self.assert_refused(NoSuchRound, season, "away", at, number)
                self.assert_refused(NoSuchRound, season, "is_away", at, number)
                self.assert_refused(NoSuchRound, season, "where", at, number)
            for name in ("matches", "goes", "left", "why", "chains"):
                self.assert_refused(NoSuchRound, season, name, at)
        for number in STRANGERS:
            self.assert_refused(UnknownReferee, season, "referee", number)

    def test_a_season_with_no_round_at_all(self):
        season = Season(0, 3)
        self.assert_all_refused(season, 0)
        self.assertEqual((season.referees(), season.deeds(), season.facts()), ([], [], []))

    def test_a_season_whose_rounds_are_all_over(self):
        season = season_of(2, 3, *PEOPLE)
        season.away(2, 3)
        season.draw_up([(1, 2, 3)])
        season.away(1, 7)
        season.close()
        season.draw_up([(1, 2, 3), (5, 6, 1)])
        goes = season.goes(2)
        self.assertEqual(season.close(), 2)
        self.assert_all_refused(season, 2)
        for at in (1, 2):
            self.assert_refused(RoundOver, season, "away", at, 7)
            self.assert_refused(RoundOver, season, "away", at, 500)
        self.assertEqual(season.matches(2), [(1, 2, 3), (5, 6, 1)])
        self.assertEqual(season.goes(2), goes)
        self.assertEqual(season.left(1), [])
        self.assertEqual(season.left(2), [place for place in (0, 1) if goes[place] is None])
        self.assertEqual(season.where(2, 3), None)
        self.assertIs(season.is_away(2, 3), True)
        self.assertIs(season.is_away(1, 3), False)
        self.assertEqual(season.referees(), [7, 3, 999])
        self.assertEqual(season.referee(7), (5, 10))
        self.assertEqual(season.deeds(), [])
        self.assertEqual([len(rows) for rows in season.facts()], [1, 2])

    def test_60_rounds(self):
        season = season_of(60, 10, *PEOPLE)
        for at in range(1, 61):
            season.draw_up([(1 + at % 2, 50, 1)])
            self.assertEqual(season.close(), at)
            self.assertEqual(season.at_hand(), at + 1)
        self.assert_all_refused(season, 60)
        self.assertEqual(len(season.facts()), 60)


class ApartTest(SeasonCase):
    def test_two_seasons_share_nothing(self):
        one = Season(3, 1)
        other = Season(3, 1)
        empty = everything(Season(3, 1))
        one.enrol(7, 5, 10)
        one.enrol(3, 9, 20)
        one.away(2, 7)
        one.draw_up([(1, 2, 3), (1, 3, 1)])
        one.away(1, 3)
        self.assertEqual(everything(other), empty)
        one.close()
        self.assertEqual(everything(other), empty)
        self.assertEqual(everything(Season(3, 1)), empty)
        before = everything(one)
        other.enrol(7, 1, 1)
        other.draw_up([(5, 6, 1)])
        other.away(1, 7)
        other.close()
        other.enrol(3, 2, 2)
        self.assertEqual(everything(one), before)

    def test_one_list_of_matches_for_two_seasons(self):
        matches = [(1, 2, 3)]
        one = season_of(3, 1, *PEOPLE)
        other = season_of(3, 1, *PEOPLE)
        one.draw_up(matches)
        other.draw_up(matches)
        one.goes(1).clear()
        one.away(1, one.goes(1)[0])
        self.assertEqual(other.chains(1), [])
        self.assertEqual(other.left(1), [])
        self.assertEqual(matches, [(1, 2, 3)])


if __name__ == "__main__":
    unittest.main()
