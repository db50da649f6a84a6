"""The bars of point 8, and point 1 as far as they go."""

import unittest

from whistlebook.bars import reasons, takers
from whistlebook.ledger import Ledger

HUGE = 10 ** 60
WORDS = ["away", "grade", "club", "met"]

# The referee 7 has grade 5 and stands by club 20.
REFEREE = (7, 5, 20)


def ledger_of(*rounds):
    ledger = Ledger()
    for rows in rounds:
        ledger.write(list(rows))
    return ledger


def ledger_with_meeting(over, at, row):
    """As many rounds over as told, without a match all but one of them."""
    return ledger_of(*[[row] if k == at else [] for k in range(1, over + 1)])


def everything(ledger, numbers=(7, 8, 9)):
    facts = [ledger.facts(at) for at in range(1, ledger.over() + 1)]
    return facts, [ledger.met(number, club) for number in numbers for club in range(1, 100)]


def plain_reasons(referee, match, out, rounds, rest):
    """Point 8 word by word, by a walk over the last rounds."""
    number, grade, club = referee
    home, guest, asked = match
    last = rounds[-rest:] if rest else []
    met = any(
        row[3] == number and (home in row[:2] or guest in row[:2])
        for rows in last for row in rows
    )
    stand = {"away": out, "grade": asked > grade, "club": club in (home, guest), "met": met}
    return [word for word in WORDS if stand[word]]


class BarsCase(unittest.TestCase):
    def assert_reasons(self, expected, referee, match, out, ledger, rest):
        before = everything(ledger)
        told = reasons(referee, match, out, ledger, rest)
        self.assertIs(type(told), list)
        self.assertEqual(told, expected)
        self.assertEqual(everything(ledger), before)

    def assert_takers(self, expected, people, match, out, ledger, rest):
        people_before = list(people)
        out_before = list(out)
        before = everything(ledger)
        told = takers(people, match, out, ledger, rest)
        self.assertIs(type(told), list)
        self.assertEqual(told, expected)
        self.assertEqual(people, people_before)
        self.assertEqual(out, out_before)
        self.assertEqual(everything(ledger), before)


class WhichBarsTest(BarsCase):
    def test_each_choice_of_bars_in_their_order(self):
        for choice in range(16):
            stand = [word for k, word in enumerate(WORDS) if choice >> k & 1]
            grade = 6 if "grade" in stand else 5
            home = 20 if "club" in stand else 21
            ledger = ledger_of([(30, 31, 2, 7 if "met" in stand else 8)])
            with self.subTest(stand=stand):
                self.assert_reasons(stand, REFEREE, (home, 30, grade), "away" in stand, ledger, 1)

    def test_no_bar(self):
        self.assert_reasons([], REFEREE, (1, 2, 3), False, Ledger(), 0)
        self.assert_reasons([], REFEREE, (1, 2, 3), False, ledger_of([(3, 4, 1, 7)]), 10)

    def test_away(self):
        self.assert_reasons(["away"], REFEREE, (1, 2, 3), True, Ledger(), 3)
        self.assert_reasons([], REFEREE, (1, 2, 3), False, Ledger(), 3)

    def test_met_in_a_match_of_both_clubs_is_told_once(self):
        ledger = ledger_of([(30, 31, 2, 7)], [(31, 30, 2, 7)])
        self.assert_reasons(["met"], REFEREE, (30, 31, 5), False, ledger, 2)

    def test_the_own_club_met_too(self):
        ledger = ledger_of([(20, 31, 2, 7)])
        self.assert_reasons(["club", "met"], REFEREE, (20, 32, 5), False, ledger, 1)


class GradeTest(BarsCase):
    def test_one_less_the_same_and_one_more(self):
        self.assert_reasons([], REFEREE, (1, 2, 4), False, Ledger(), 0)
        self.assert_reasons([], REFEREE, (1, 2, 5), False, Ledger(), 0)
        self.assert_reasons(["grade"], REFEREE, (1, 2, 6), False, Ledger(), 0)

    def test_every_two_grades(self):
        for grade in range(1, 10):
            for asked in range(1, 10):
                with self.subTest(grade=grade, asked=asked):
                    expected = ["grade"] if asked > grade else []
                    self.assert_reasons(expected, (7, grade, 20), (1, 2, asked), False, Ledger(), 0)


class ClubTest(BarsCase):
    def test_as_home_and_as_guest(self):
        self.assert_reasons(["club"], REFEREE, (20, 2, 5), False, Ledger(), 0)
        self.assert_reasons(["club"], REFEREE, (1, 20, 5), False, Ledger(), 0)

    def test_another_club(self):
        for match in ((19, 21, 5), (21, 19, 5), (7, 5, 5), (5, 7, 5), (1, 99, 5)):
            with self.subTest(match=match):
                self.assert_reasons([], REFEREE, match, False, Ledger(), 0)

    def test_clubs_1_and_99(self):
        for club, other in ((1, 99), (99, 1), (1, 2), (99, 98)):
            for match in ((club, other, 5), (other, club, 5)):
                with self.subTest(club=club, match=match):
                    self.assert_reasons(["club"], (7, 5, club), match, False, Ledger(), 0)

    def test_a_grade_that_equals_the_club_is_no_club(self):
        self.assert_reasons([], (7, 9, 5), (1, 2, 5), False, Ledger(), 0)


class MetTest(BarsCase):
    def test_with_home_and_guest_of_then_and_now(self):
        for row in ((30, 40, 2, 7), (40, 30, 2, 7)):
            for match in ((30, 50, 5), (50, 30, 5)):
                with self.subTest(row=row, match=match):
                    self.assert_reasons(["met"], REFEREE, match, False, ledger_of([row]), 1)

    def test_other_clubs(self):
        self.assert_reasons([], REFEREE, (50, 51, 5), False, ledger_of([(30, 40, 2, 7)]), 10)

    def test_another_referee(self):
        ledger = ledger_of([(30, 40, 2, 8), (50, 51, 2, 7)])
        self.assert_reasons([], REFEREE, (30, 40, 5), False, ledger, 10)

    def test_a_match_that_nobody_took(self):
        self.assert_reasons([], REFEREE, (30, 40, 5), False, ledger_of([(30, 40, 2, None)]), 10)

    def test_no_round_over(self):
        for rest in range(11):
            with self.subTest(rest=rest):
                self.assert_reasons([], REFEREE, (30, 40, 5), False, Ledger(), rest)

    def test_a_told_number_of_0_is_no_bar(self):
        for over in (1, 2, 10, 60):
            with self.subTest(over=over):
                ledger = ledger_of(*[[(30, 40, 2, 7)]] * over)
                self.assert_reasons([], REFEREE, (30, 40, 5), False, ledger, 0)

    def test_a_told_number_of_1(self):
        self.assert_reasons(["met"], REFEREE, (30, 50, 5), False, ledger_of([], [(30, 40, 2, 7)]), 1)
        self.assert_reasons([], REFEREE, (30, 50, 5), False, ledger_of([(30, 40, 2, 7)], []), 1)

    def test_just_within_and_just_outside_of_the_last_rounds(self):
        for over in (1, 2, 3, 10, 11, 12, 60):
            for rest in range(11):
                for at in range(1, over + 1):
                    ledger = ledger_with_meeting(over, at, (30, 40, 2, 7))
                    expected = ["met"] if at > over - rest else []
                    for match in ((30, 50, 5), (50, 40, 5)):
                        with self.subTest(over=over, rest=rest, at=at, match=match):
                            self.assertEqual(reasons(REFEREE, match, False, ledger, rest), expected)

    def test_fewer_rounds_over_than_the_told_number(self):
        for rest in (3, 4, 10):
            for at in (1, 2):
                with self.subTest(rest=rest, at=at):
                    ledger = ledger_with_meeting(2, at, (30, 40, 2, 7))
                    self.assert_reasons(["met"], REFEREE, (30, 50, 5), False, ledger, rest)
                    self.assert_reasons([], REFEREE, (51, 50, 5), False, ledger, rest)
                    self.assert_reasons([], (8, 5, 20), (30, 50, 5), False, ledger, rest)

    def test_home_met_long_ago_and_guest_met_lately(self):
        ledger = ledger_of([(30, 40, 2, 7)], [], [(50, 60, 2, 7)])
        for match in ((30, 50, 5), (50, 30, 5)):
            with self.subTest(match=match):
                self.assert_reasons(["met"], REFEREE, match, False, ledger, 1)
        for match in ((30, 40, 5), (40, 30, 5)):
            with self.subTest(match=match):
                self.assert_reasons([], REFEREE, match, False, ledger, 1)
                self.assert_reasons([], REFEREE, match, False, ledger, 2)
                self.assert_reasons(["met"], REFEREE, match, False, ledger, 3)

    def test_the_last_of_several_meetings_counts(self):
        ledger = ledger_of([(30, 40, 2, 7)], [], [(30, 41, 2, 7)], [])
        self.assert_reasons([], REFEREE, (30, 50, 5), False, ledger, 1)
        self.assert_reasons(["met"], REFEREE, (30, 50, 5), False, ledger, 2)
        self.assert_reasons([], REFEREE, (40, 50, 5), False, ledger, 3)

    def test_a_bar_ends_as_rounds_go_over(self):
        ledger = ledger_of([(30, 40, 2, 7)])
        told = []
        for count in range(4):
            told.append(reasons(REFEREE, (30, 50, 5), False, ledger, 2))
            ledger.write([(60, 61, 2, 7)])
        self.assertEqual(told, [["met"], ["met"], [], []])


class FreshTest(BarsCase):
    def test_a_fresh_list_each_time(self):
        ledger = ledger_of([(20, 31, 2, 7)])
        for match, out, expected in (((20, 30, 6), True, list(WORDS)), ((1, 2, 3), False, [])):
            with self.subTest(match=match):
                told = reasons(REFEREE, match, out, ledger, 1)
                told.append("late")
                self.assert_reasons(expected, REFEREE, match, out, ledger, 1)
                told.clear()
                self.assert_reasons(expected, REFEREE, match, out, ledger, 1)

    def test_takers_tell_a_fresh_list_each_time(self):
        for people, expected in (([], []), ([REFEREE, (8, 5, 21)], [7, 8])):
            with self.subTest(people=people):
                told = takers(people, (1, 2, 3), [], Ledger(), 0)
                told.append(9)
                self.assert_takers(expected, people, (1, 2, 3), [], Ledger(), 0)

    def test_takers_do_not_tell_what_was_handed_in(self):
        people = [REFEREE]
        out = []
        told = takers(people, (1, 2, 3), out, Ledger(), 0)
        told.clear()
        self.assertEqual([people, out], [[REFEREE], []])

    def test_lists_changed_behind_a_call_change_nothing_told(self):
        people = [REFEREE, (8, 5, 21)]
        out = [8]
        told = takers(people, (1, 2, 3), out, Ledger(), 0)
        people.clear()
        out.append(7)
        self.assertEqual(told, [7])


class TakersTest(BarsCase):
    def test_nobody(self):
        self.assert_takers([], [], (1, 2, 3), [], Ledger(), 0)
        self.assert_takers([], [], (1, 2, 3), [7], ledger_of([(1, 2, 3, 7)]), 10)

    def test_one(self):
        self.assert_takers([7], [REFEREE], (1, 2, 3), [], Ledger(), 0)

    def test_one_whom_each_bar_keeps_from_the_match(self):
        ledger = ledger_of([(30, 40, 2, 7)])
        self.assert_takers([7], [REFEREE], (1, 2, 5), [], ledger, 1)
        self.assert_takers([], [REFEREE], (1, 2, 5), [7], ledger, 1)
        self.assert_takers([], [REFEREE], (1, 2, 6), [], ledger, 1)
        self.assert_takers([], [REFEREE], (20, 2, 5), [], ledger, 1)
        self.assert_takers([], [REFEREE], (1, 20, 5), [], ledger, 1)
        self.assert_takers([], [REFEREE], (30, 2, 5), [], ledger, 1)
        self.assert_takers([], [REFEREE], (1, 40, 5), [], ledger, 1)
        self.assert_takers([7], [REFEREE], (1, 40, 5), [], ledger, 0)
        self.assert_takers([], [REFEREE], (30, 20, 6), [7], ledger, 1)

    def test_in_the_order_in_which_they_are_handed_in(self):
        people = [(500, 9, 1), (3, 9, 1), (999, 9, 1), (1, 9, 1), (40, 9, 1)]
        self.assert_takers([500, 3, 999, 1, 40], people, (2, 3, 9), [], Ledger(), 0)
        self.assert_takers([40, 1, 999, 3, 500], people[::-1], (2, 3, 9), [], Ledger(), 0)
        self.assert_takers([500, 999, 40], people, (2, 3, 9), [1, 3], Ledger(), 0)

    def test_each_kept_by_another_bar(self):
        people = [(9, 5, 1), (8, 5, 1), (7, 4, 1), (6, 5, 30), (5, 5, 31), (4, 5, 1), (3, 5, 1), (2, 6, 2)]
        ledger = ledger_of([(30, 50, 1, 4)], [(51, 31, 1, 3), (52, 53, 1, 2)])
        self.assert_takers([9, 2], people, (30, 31, 5), [8], ledger, 2)
        self.assert_takers([9, 4, 2], people, (30, 31, 5), [8], ledger, 1)
        self.assert_takers([9, 4, 3, 2], people, (30, 31, 5), [8], ledger, 0)

    def test_numbers_in_out_that_none_of_the_people_has(self):
        people = [(500, 9, 1), (3, 9, 1)]
        for out in ([1], [5, 20, 9], [0, -1, 1000, HUGE, -HUGE], [50, 500, 5], [30, 300]):
            with self.subTest(out=out):
                expected = [number for number in (500, 3) if number not in out]
                self.assert_takers(expected, people, (2, 3, 9), out, Ledger(), 0)

    def test_all_away(self):
        people = [(500, 9, 1), (3, 9, 1)]
        self.assert_takers([], people, (2, 3, 9), [3, 500], Ledger(), 0)

    def test_30_people_by_a_walk(self):
        people = [(990 - 33 * k, k % 9 + 1, k % 11 + 1) for k in range(30)]
        rounds = []
        for at in range(12):
            rounds.append([
                ((at + 2 * k) % 11 + 1, (at + 2 * k + 3) % 11 + 1, 1, people[(at * 5 + k) % 30][0] if k % 4 else None)
                for k in range(8)
            ])
        ledger = ledger_of(*rounds)
        out = [people[k][0] for k in (0, 7, 13, 29)] + [1, 2]
        for home in range(1, 12):
            for asked in (1, 4, 9):
                for rest in (0, 1, 2, 5, 10):
                    match = (home, home % 11 + 1, asked)
                    expected = []
                    for person in people:
                        told = plain_reasons(person, match, person[0] in out, rounds, rest)
                        with self.subTest(person=person, match=match, rest=rest):
                            self.assertEqual(reasons(person, match, person[0] in out, ledger, rest), told)
                        if not told:
                            expected.append(person[0])
                    self.assert_takers(expected, people, match, out, ledger, rest)

    def test_30_people_who_may_all_take_it(self):
        people = [(990 - 33 * k, 9, k % 11 + 1) for k in range(30)]
        expected = [person[0] for person in people]
        self.assert_takers(expected, people, (98, 99, 9), [], Ledger(), 10)


if __name__ == "__main__":
    unittest.main()
