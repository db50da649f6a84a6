"""Taking back, and how the deeds are told: points 19 and 20."""

import unittest

from seasons import STRANGERS, SeasonCase, asked, everything, play_out, season_of
from whistlebook.errors import (
    AwayAlready, DrawnUp, KnownReferee, NotDrawn, NothingToTakeBack, TooManyDeeds, UnknownReferee,
)
from whistlebook.season import Season

PEOPLE = [(11, 1, 90), (15, 5, 90), (19, 9, 90)]
RISING = [(1, 2, 1), (3, 4, 5), (5, 6, 9)]


class TakeBackCase(SeasonCase):
    def assert_taken_back(self, season, deed, name, *arguments):
        """Does a deed and takes it back; everything is then as it was ahead of it."""
        before = everything(season)
        getattr(season, name)(*arguments)
        self.assertEqual(season.deeds(), before["deeds"] + [deed])
        self.assertNotEqual(everything(season), before)
        told = season.take_back()
        self.assertIs(type(told), tuple)
        self.assertEqual(told, deed)
        self.assertEqual(everything(season), before)


class EachKindTest(TakeBackCase):
    def test_enrolling(self):
        for season in (Season(3, 1), season_of(3, 1, *PEOPLE), play_out(season_of(3, 1, *PEOPLE), 1)):
            at = season.at_hand()
            self.assert_taken_back(season, ("enrol", 20, at), "enrol", 20, 5, 6)

    def test_one_whose_enrolling_was_taken_back_is_unknown_and_can_be_enrolled_anew(self):
        season = season_of(3, 1, *PEOPLE)
        self.assertEqual(season.take_back(), ("enrol", 19, 1))
        self.assertIs(asked(season.referee, 19), UnknownReferee)
        self.assertIs(asked(season.is_away, 1, 19), UnknownReferee)
        self.assertIs(asked(season.away, 1, 19), UnknownReferee)
        self.assertEqual(season.referees(), [11, 15])
        season.enrol(19, 2, 3)
        self.assertEqual(season.referee(19), (2, 3))
        self.assertEqual(season.referees(), [11, 15, 19])
        self.assertIs(asked(season.enrol, 19, 2, 3), KnownReferee)
        season.take_back()
        season.take_back()
        season.enrol(19, 9, 90)
        season.enrol(15, 5, 90)
        self.assertEqual(season.referees(), [11, 19, 15])

    def test_one_whose_enrolling_was_taken_back_takes_no_match(self):
        season = season_of(3, 1, *PEOPLE)
        season.take_back()
        self.assertEqual(season.draw_up([(5, 6, 9), (5, 6, 5)]), [None, 15])

    def test_one_whose_enrolling_was_taken_back_and_was_away_is_not_away_anew(self):
        season = season_of(3, 1, *PEOPLE)
        season.away(2, 19)
        self.assertEqual(season.take_back(), ("away", 19, 2))
        self.assertEqual(season.take_back(), ("enrol", 19, 1))
        season.enrol(19, 9, 90)
        self.assertEqual([season.is_away(at, 19) for at in (1, 2, 3)], [False] * 3)

    def test_the_30th_can_be_enrolled_again(self):
        season = season_of(3, 1, *[(k, 5, 5) for k in range(1, 31)])
        season.take_back()
        season.enrol(31, 5, 5)
        self.assertEqual(season.referees(), [*range(1, 30), 31])

    def test_being_away_ahead_of_the_drawing_up(self):
        season = season_of(3, 1, *PEOPLE)
        self.assert_taken_back(season, ("away", 15, 1), "away", 1, 15)
        self.assert_taken_back(season, ("away", 15, 3), "away", 3, 15)
        self.assertEqual(season.draw_up(RISING), [11, 15, 19])

    def test_being_away_in_a_later_round(self):
        season = season_of(3, 0, *PEOPLE)
        season.draw_up(RISING)
        self.assert_taken_back(season, ("away", 15, 2), "away", 2, 15)
        season.close()
        self.assertEqual(season.draw_up(RISING), [11, 15, 19])

    def test_being_away_in_one_round_leaves_the_others(self):
        season = season_of(3, 0, *PEOPLE)
        season.away(1, 15)
        season.away(2, 15)
        season.away(2, 11)
        season.away(3, 15)
        self.assertEqual(season.take_back(), ("away", 15, 3))
        self.assertEqual([season.is_away(at, 15) for at in (1, 2, 3)], [True, True, False])
        self.assertEqual(season.take_back(), ("away", 11, 2))
        self.assertEqual([season.is_away(at, 15) for at in (1, 2, 3)], [True, True, False])
        self.assertIs(season.is_away(2, 11), False)
        self.assertEqual(season.take_back(), ("away", 15, 2))
        self.assertEqual([season.is_away(at, 15) for at in (1, 2, 3)], [True, False, False])

    def test_drawing_up(self):
        for matches in ([], RISING, [(1, 2, 9)] * 4):
            season = season_of(3, 1, *PEOPLE)
            self.assert_taken_back(season, ("draw up", len(matches), 1), "draw_up", matches)
            self.assertIs(asked(season.close), NotDrawn)
            self.assertIs(asked(season.goes, 1), NotDrawn)
            season.enrol(20, 9, 91)
            self.assertEqual(len(season.draw_up(RISING + [(7, 8, 9)])), 4)

    def test_one_without_a_match_who_is_away(self):
        season = season_of(3, 1, *PEOPLE)
        season.draw_up([(5, 6, 9)])
        self.assert_taken_back(season, ("away", 15, 1), "away", 1, 15)
        season.take_back()
        season.draw_up([(5, 6, 1)])
        free = [number for number in (11, 15, 19) if number not in season.goes(1)]
        for number in free:
            self.assert_taken_back(season, ("away", number, 1), "away", 1, number)

    def test_falling_out(self):
        for number in (11, 15, 19):
            season = season_of(3, 1, *PEOPLE)
            season.draw_up(RISING)
            self.assert_taken_back(season, ("away", number, 1), "away", 1, number)
            self.assertEqual(season.goes(1), [11, 15, 19])
            self.assertEqual(season.chains(1), [])
            season.close()
            self.assertEqual(season.facts(), [[(1, 2, 1, 11), (3, 4, 5, 15), (5, 6, 9, 19)]])

    def test_one_of_several_fallings_out(self):
        season = season_of(3, 1, *PEOPLE)
        season.draw_up(RISING)
        first = self.fall_out(season, 11)
        self.assert_taken_back(season, ("away", 19, 1), "away", 1, 19)
        self.assert_taken_back(season, ("away", 15, 1), "away", 1, 15)
        self.assertEqual(season.chains(1), [(11, first)])
        second = self.fall_out(season, 15)
        self.assertEqual(season.chains(1), [(11, first), (15, second)])

    def test_one_who_fell_out_may_fall_out_again_behind_the_taking_back(self):
        season = season_of(3, 1, *PEOPLE)
        season.draw_up(RISING)
        steps = self.fall_out(season, 11)
        self.assertIs(asked(season.away, 1, 11), AwayAlready)
        season.take_back()
        self.assertEqual(self.fall_out(season, 11), steps)
        self.assertEqual(season.chains(1), [(11, steps)])

    def test_who_goes_where_is_as_it_was_not_just_as_weighty(self):
        # Four equal referees: who is told first is free, but behind the taking back it is the same again.
        season = season_of(3, 1, *[(k, 5, 90) for k in (4, 2, 3, 1)])
        goes = season.draw_up([(1, 2, 5), (3, 4, 5)])
        for number in list(goes):
            season.away(1, number)
            self.assertNotEqual(season.goes(1), goes)
            season.take_back()
            self.assertEqual(season.goes(1), goes)
        for number in list(goes):
            season.away(1, number)
        season.take_back()
        season.take_back()
        self.assertEqual(season.goes(1), goes)


class SeveralTest(TakeBackCase):
    DEEDS = (
        ("enrol", 11, 1, 90), ("away", 2, 11), ("enrol", 15, 5, 90), ("enrol", 19, 9, 90), ("away", 1, 15),
        ("draw_up", RISING + [(7, 8, 5)]), ("away", 1, 11), ("away", 3, 19), ("away", 1, 19), ("away", 2, 19),
    )
    TOLD = [
        ("enrol", 11, 1), ("away", 11, 2), ("enrol", 15, 1), ("enrol", 19, 1), ("away", 15, 1),
        ("draw up", 4, 1), ("away", 11, 1), ("away", 19, 3), ("away", 19, 1), ("away", 19, 2),
    ]

    def test_all_of_them_one_by_one(self):
        season = Season(3, 1)
        stood = []
        for name, *arguments in self.DEEDS:
            stood.append(everything(season))
            getattr(season, name)(*arguments)
        self.assertEqual(season.deeds(), self.TOLD)
        for deed in reversed(self.TOLD):
            self.assertEqual(season.take_back(), deed)
            self.assertEqual(everything(season), stood.pop())
        self.assert_refused(NothingToTakeBack, season, "take_back")
        self.assertEqual(everything(season), everything(Season(3, 1)))

    def test_some_and_others_in_their_place(self):
        for kept in range(len(self.DEEDS)):
            season = Season(3, 1)
            for name, *arguments in self.DEEDS:
                getattr(season, name)(*arguments)
            for _ in self.DEEDS[kept:]:
                season.take_back()
            self.assertEqual(season.deeds(), self.TOLD[:kept])
            for name, *arguments in self.DEEDS[kept:]:
                getattr(season, name)(*arguments)
            self.assertEqual(season.deeds(), self.TOLD)

    def test_in_a_later_round(self):
        season = season_of(3, 1, *PEOPLE)
        season.away(2, 15)
        season.draw_up(RISING)
        season.away(1, 11)
        season.close()
        before = everything(season)
        season.enrol(20, 5, 5)
        season.draw_up(RISING)
        season.away(2, 20)
        for deed in (("away", 20, 2), ("draw up", 3, 2), ("enrol", 20, 2)):
            self.assertEqual(season.take_back(), deed)
        self.assertEqual(everything(season), before)
        self.assert_refused(NothingToTakeBack, season, "take_back")


class NothingTest(TakeBackCase):
    def test_at_first(self):
        self.assert_refused(NothingToTakeBack, Season(0, 0), "take_back")
        self.assert_refused(NothingToTakeBack, Season(3, 1), "take_back")

    def test_right_behind_a_closing(self):
        season = season_of(2, 1, *PEOPLE)
        season.away(2, 15)
        season.draw_up(RISING)
        season.close()
        self.assert_refused(NothingToTakeBack, season, "take_back")
        self.assertIs(season.is_away(2, 15), True)
        season.draw_up([])
        season.close()
        self.assert_refused(NothingToTakeBack, season, "take_back")

    def test_a_refused_deed_is_not_taken_back(self):
        season = season_of(2, 1, *PEOPLE)
        season.draw_up(RISING)
        for call in (
            ("enrol", 20, 5, 5), ("draw_up", []), ("away", 0, 11), ("away", 1, 500), ("away", 1, 0),
        ):
            asked(getattr(season, call[0]), *call[1:])
        self.assertEqual(season.take_back(), ("draw up", 3, 1))
        season.away(1, 15)
        self.assertIs(asked(season.away, 1, 15), AwayAlready)
        self.assertEqual(season.take_back(), ("away", 15, 1))
        self.assertEqual(season.take_back(), ("enrol", 19, 1))

    def test_a_question_is_no_deed(self):
        season = season_of(2, 1, *PEOPLE)
        season.draw_up(RISING)
        everything(season)
        self.assertEqual(season.take_back(), ("draw up", 3, 1))


class HundredTest(TakeBackCase):
    def test_100_deeds_are_taken_back(self):
        season = season_of(60, 1, *PEOPLE)
        for k in range(97):
            season.away(2 + k // 3, PEOPLE[k % 3][0])
        self.assertIs(asked(season.draw_up, RISING), TooManyDeeds)
        self.assertEqual(season.take_back(), ("away", 11, 34))
        self.assertEqual(season.draw_up(RISING), [11, 15, 19])
        self.assertIs(asked(season.away, 1, 11), TooManyDeeds)
        self.assertIs(asked(season.enrol, 20, 1, 1), DrawnUp)
        for _ in range(100):
            season.take_back()
        self.assert_refused(NothingToTakeBack, season, "take_back")
        self.assertEqual(everything(season), everything(Season(60, 1)))


class DeedsToldTest(TakeBackCase):
    def test_how_they_are_told(self):
        season = season_of(3, 1, *PEOPLE)
        self.assertEqual(season.deeds(), [("enrol", 11, 1), ("enrol", 15, 1), ("enrol", 19, 1)])
        season.away(3, 15)
        season.draw_up(RISING)
        season.away(1, 11)
        self.assertEqual(season.deeds()[3:], [("away", 15, 3), ("draw up", 3, 1), ("away", 11, 1)])
        self.assertTrue(all(type(deed) is tuple for deed in season.deeds()))
        season.close()
        self.assertEqual(season.deeds(), [])
        season.enrol(20, 1, 1)
        season.away(3, 20)
        season.draw_up([])
        self.assertEqual(season.deeds(), [("enrol", 20, 2), ("away", 20, 3), ("draw up", 0, 2)])

    def test_fresh(self):
        season = season_of(3, 1, *PEOPLE)
        before = everything(season)
        season.deeds().clear()
        season.deeds().append(("enrol", 1, 1))
        self.assertEqual(everything(season), before)
        self.assertEqual(season.take_back(), ("enrol", 19, 1))

    def test_a_list_told_earlier_stays(self):
        season = season_of(3, 1, *PEOPLE)
        told = season.deeds()
        season.take_back()
        self.assertEqual(len(told), 3)
        self.assertEqual(len(season.deeds()), 2)

    def test_strangers_are_unknown_all_along(self):
        season = season_of(3, 1, *PEOPLE)
        for number in STRANGERS:
            self.assert_refused(UnknownReferee, season, "referee", number)


if __name__ == "__main__":
    unittest.main()
