"""The roster of points 2 and 3, and point 1 as far as a roster goes."""

import unittest

from whistlebook.errors import KnownReferee, OutOfRange, TooManyReferees, UnknownReferee
from whistlebook.people import Roster

HUGE = 10 ** 60
STRANGERS = (0, -1, 1000, HUGE, -HUGE)


def roster_of(*people):
    roster = Roster()
    for number, grade, club in people:
        roster.add(number, grade, club)
    return roster


def full_people():
    """30 referees, their numbers falling, so that the order of adding is not the rising one."""
    return [(900 - 10 * k, k % 9 + 1, k % 99 + 1) for k in range(30)]


def everything(roster):
    """All that a roster can be asked, so that two states of it can be compared."""
    known = [number for number in range(-1, 1002) if roster.has(number)]
    rows = [(number, roster.grade(number), roster.club(number)) for number in roster.numbers()]
    return known, rows


class RosterCase(unittest.TestCase):
    def assert_refused(self, roster, error, number, grade, club):
        before = everything(roster)
        with self.assertRaises(error) as caught:
            roster.add(number, grade, club)
        self.assertIs(type(caught.exception), error)
        self.assertEqual(everything(roster), before)


class OrdinaryTest(RosterCase):
    def test_a_roster_is_empty_at_first(self):
        roster = Roster()
        self.assertEqual(roster.numbers(), [])
        self.assertIs(type(roster.numbers()), list)
        self.assertIs(roster.has(1), False)

    def test_add_tells_none(self):
        self.assertIsNone(Roster().add(5, 3, 7))

    def test_numbers_stand_in_the_order_of_adding(self):
        roster = roster_of((500, 1, 1), (20, 9, 3), (999, 5, 2), (1, 2, 99), (21, 2, 99))
        self.assertEqual(roster.numbers(), [500, 20, 999, 1, 21])

    def test_has_is_true_of_those_who_were_added_alone(self):
        roster = roster_of((500, 4, 6), (20, 9, 3))
        self.assertIs(roster.has(500), True)
        self.assertIs(roster.has(20), True)
        for number in (4, 6, 9, 3, 21, 499, 501) + STRANGERS:
            with self.subTest(number=number):
                self.assertIs(roster.has(number), False)

    def test_grade_and_club_are_those_of_the_one_asked_for(self):
        roster = roster_of((500, 4, 6), (20, 9, 3), (7, 4, 3))
        self.assertEqual([roster.grade(number) for number in (500, 20, 7)], [4, 9, 4])
        self.assertEqual([roster.club(number) for number in (500, 20, 7)], [6, 3, 3])


class EdgesTest(RosterCase):
    def test_least_and_greatest_values_are_taken(self):
        for person in ((1, 5, 50), (999, 5, 50), (500, 1, 50), (500, 9, 50), (500, 5, 1), (500, 5, 99),
                       (1, 1, 1), (999, 9, 99)):
            with self.subTest(person=person):
                self.assertEqual(everything(roster_of(person)), ([person[0]], [person]))

    def test_the_30th_referee_is_taken(self):
        people = full_people()
        roster = roster_of(*people[:29])
        self.assertIsNone(roster.add(*people[29]))
        self.assertEqual(everything(roster)[1], people)


class RefusalsTest(RosterCase):
    def test_number_out_of_range(self):
        for number in STRANGERS:
            with self.subTest(number=number):
                self.assert_refused(Roster(), OutOfRange, number, 5, 50)
                self.assert_refused(roster_of((7, 2, 3)), OutOfRange, number, 5, 50)

    def test_grade_out_of_range(self):
        for grade in (0, 10, -1, HUGE, -HUGE):
            with self.subTest(grade=grade):
                self.assert_refused(roster_of((7, 2, 3)), OutOfRange, 500, grade, 50)

    def test_club_out_of_range(self):
        for club in (0, 100, -1, HUGE, -HUGE):
            with self.subTest(club=club):
                self.assert_refused(roster_of((7, 2, 3)), OutOfRange, 500, 5, club)

    def test_a_number_twice(self):
        for grade, club in ((2, 3), (9, 3), (2, 99), (5, 50)):
            with self.subTest(grade=grade, club=club):
                self.assert_refused(roster_of((7, 2, 3), (8, 4, 4)), KnownReferee, 7, grade, club)

    def test_equal_grade_and_club_of_another_number_are_taken(self):
        roster = roster_of((7, 2, 3), (8, 2, 3))
        self.assertEqual(everything(roster), ([7, 8], [(7, 2, 3), (8, 2, 3)]))

    def test_the_31st_referee(self):
        roster = roster_of(*full_people())
        for number in (1, 999, 905):
            with self.subTest(number=number):
                self.assert_refused(roster, TooManyReferees, number, 5, 50)

    def test_a_refused_number_can_be_added_rightly_afterwards(self):
        roster = Roster()
        self.assert_refused(roster, OutOfRange, 500, 10, 50)
        self.assert_refused(roster, OutOfRange, 500, 5, 100)
        roster.add(500, 5, 50)
        self.assertEqual(everything(roster), ([500], [(500, 5, 50)]))

    def test_refused_ones_do_not_count_towards_30(self):
        people = full_people()
        roster = roster_of(*people[:29])
        for k in range(40):
            self.assert_refused(roster, OutOfRange, 1000 + k, 5, 50)
            self.assert_refused(roster, KnownReferee, people[k % 29][0], 5, 50)
        roster.add(*people[29])
        self.assertEqual(everything(roster)[1], people)

    def test_grade_and_club_of_one_who_is_not_on_it(self):
        for roster in (Roster(), roster_of((7, 2, 3)), roster_of(*full_people())):
            before = everything(roster)
            for number in (1, 2, 3, 999) + STRANGERS:
                with self.subTest(number=number, before=before):
                    with self.assertRaises(UnknownReferee):
                        roster.grade(number)
                    with self.assertRaises(UnknownReferee):
                        roster.club(number)
                    self.assertEqual(everything(roster), before)

    def test_one_whose_adding_was_refused_is_unknown(self):
        roster = roster_of(*full_people())
        self.assert_refused(roster, TooManyReferees, 1, 5, 50)
        self.assertIs(roster.has(1), False)
        with self.assertRaises(UnknownReferee):
            roster.grade(1)
        with self.assertRaises(UnknownReferee):
            roster.club(1)


class OrderOfRefusalsTest(RosterCase):
    def test_out_of_range_ahead_of_known(self):
        roster = roster_of((7, 2, 3))
        for grade, club in ((0, 3), (10, 3), (2, 0), (2, 100), (0, 100)):
            with self.subTest(grade=grade, club=club):
                self.assert_refused(roster, OutOfRange, 7, grade, club)

    def test_out_of_range_ahead_of_too_many(self):
        roster = roster_of(*full_people())
        for person in ((0, 5, 50), (1000, 5, 50), (-1, 5, 50), (HUGE, 5, 50), (1, 0, 50), (1, 10, 50),
                       (1, 5, 0), (1, 5, 100)):
            with self.subTest(person=person):
                self.assert_refused(roster, OutOfRange, *person)

    def test_known_ahead_of_too_many(self):
        roster = roster_of(*full_people())
        for number, grade, club in full_people():
            with self.subTest(number=number):
                self.assert_refused(roster, KnownReferee, number, grade, club)
                self.assert_refused(roster, KnownReferee, number, 10 - grade, 100 - club)

    def test_out_of_range_ahead_of_known_and_too_many(self):
        roster = roster_of(*full_people())
        for grade, club in ((0, 1), (10, 1), (1, 0), (1, 100), (-HUGE, HUGE)):
            with self.subTest(grade=grade, club=club):
                self.assert_refused(roster, OutOfRange, 900, grade, club)


class StrikeTest(RosterCase):
    def test_one_who_is_struck_off_is_unknown_and_leaves_the_others(self):
        roster = roster_of((7, 2, 3), (5, 4, 6), (9, 1, 1))
        self.assertIsNone(roster.strike(5))
        self.assertEqual(everything(roster), ([7, 9], [(7, 2, 3), (9, 1, 1)]))
        with self.assertRaises(UnknownReferee):
            roster.grade(5)
        roster.add(5, 8, 8)
        self.assertEqual(roster.numbers(), [7, 9, 5])

    def test_room_is_made_for_another(self):
        roster = roster_of(*full_people())
        roster.strike(900)
        roster.add(1, 5, 50)
        self.assertEqual(len(roster.numbers()), 30)


class PersonTest(RosterCase):
    def test_number_grade_and_club(self):
        self.assertEqual(roster_of((7, 2, 3), (5, 4, 6)).person(5), (5, 4, 6))

    def test_an_unknown_one(self):
        with self.assertRaises(UnknownReferee):
            roster_of((7, 2, 3)).person(2)

    def test_a_check_of_a_new_one_adds_nobody(self):
        roster = roster_of((7, 2, 3))
        before = everything(roster)
        self.assertIsNone(roster.check_new(5, 4, 6))
        self.assertIsNone(roster.check_known(7))
        self.assertEqual(everything(roster), before)


class ApartTest(RosterCase):
    def test_a_told_list_that_is_changed_changes_nothing(self):
        roster = roster_of((7, 2, 3), (5, 4, 6))
        before = everything(roster)
        told = roster.numbers()
        told.append(8)
        told[0] = 99
        self.assertEqual(everything(roster), before)
        told.clear()
        self.assertEqual(everything(roster), before)

    def test_a_list_told_earlier_stays_as_it_is(self):
        roster = roster_of((7, 2, 3))
        told = roster.numbers()
        roster.add(5, 4, 6)
        self.assertEqual(told, [7])
        self.assertEqual(roster.numbers(), [7, 5])

    def test_the_list_of_an_empty_roster_is_a_fresh_one_too(self):
        roster = Roster()
        roster.numbers().append(7)
        self.assertEqual(everything(roster), ([], []))
        self.assertEqual(everything(Roster()), ([], []))

    def test_two_rosters_share_nothing(self):
        one = Roster()
        other = Roster()
        one.add(7, 2, 3)
        self.assertEqual(everything(other), ([], []))
        other.add(7, 9, 99)
        other.add(8, 1, 1)
        self.assertEqual(everything(one), ([7], [(7, 2, 3)]))
        self.assertEqual(everything(other), ([7, 8], [(7, 9, 99), (8, 1, 1)]))
        self.assertEqual(everything(Roster()), ([], []))

    def test_a_full_roster_leaves_room_on_another(self):
        roster_of(*full_people())
        self.assertEqual(everything(roster_of(*full_people()))[1], full_people())

    def test_asking_changes_nothing(self):
        roster = roster_of((7, 2, 3), (5, 4, 6))
        before = everything(roster)
        for number in (7, 5, 8) + STRANGERS:
            roster.has(number)
        self.assertEqual(everything(roster), before)
        self.assertEqual(everything(roster), before)


if __name__ == "__main__":
    unittest.main()
