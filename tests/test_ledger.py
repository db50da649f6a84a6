"""The rounds over of points 6 and 7, and point 1 as far as a ledger goes."""

import unittest

from whistlebook.errors import NoSuchRound
from whistlebook.ledger import Ledger

HUGE = 10 ** 60

FIRST = [(12, 30, 4, 7), (5, 6, 9, None), (31, 12, 2, 8)]
SECOND = [(6, 5, 1, 7), (40, 41, 3, 999)]
THIRD = [(30, 5, 5, 8), (12, 30, 4, None)]


def ledger_of(*rounds):
    ledger = Ledger()
    for rows in rounds:
        ledger.write(list(rows))
    return ledger


def everything(ledger):
    """All that a ledger can be asked of numbers that could stand in it."""
    facts = [ledger.facts(at) for at in range(1, ledger.over() + 1)]
    numbers = sorted({row[3] for rows in facts for row in rows if row[3] is not None} | {1, 2, 7, 8})
    return facts, {(number, club): ledger.met(number, club) for number in numbers for club in range(1, 100)}


def last_meeting(rounds, number, club):
    """Point 7 word by word, by a walk over what was written."""
    last = 0
    for at, rows in enumerate(rounds, start=1):
        for home, guest, grade, referee in rows:
            if referee == number and club in (home, guest):
                last = at
    return last


def full_rounds():
    """60 rounds of 20 matches, with and without a referee."""
    rounds = []
    for at in range(60):
        rows = []
        for k in range(20):
            home = (at * 7 + k) % 99 + 1
            guest = (home + at + k) % 99 + 1
            if home == guest:
                guest = home % 99 + 1
            referee = None if (at + k) % 6 == 0 else (at * 3 + k) % 30 + 970
            rows.append((home, guest, (at + k) % 9 + 1, referee))
        rounds.append(rows)
    return rounds


class LedgerCase(unittest.TestCase):
    def assert_no_such_round(self, ledger, at):
        before = everything(ledger)
        with self.assertRaises(NoSuchRound) as caught:
            ledger.facts(at)
        self.assertIs(type(caught.exception), NoSuchRound)
        self.assertEqual(everything(ledger), before)


class RoundsTest(LedgerCase):
    def test_there_is_no_round_at_first(self):
        ledger = Ledger()
        self.assertEqual(ledger.over(), 0)
        self.assertIs(type(ledger.over()), int)

    def test_write_tells_none(self):
        ledger = Ledger()
        self.assertIsNone(ledger.write(list(FIRST)))
        self.assertIsNone(ledger.write([]))

    def test_rounds_are_counted(self):
        ledger = Ledger()
        for count, rows in enumerate((FIRST, SECOND, THIRD, FIRST), start=1):
            ledger.write(list(rows))
            self.assertEqual(ledger.over(), count)

    def test_facts_tell_each_round_as_it_was_written(self):
        ledger = ledger_of(FIRST, SECOND, THIRD)
        self.assertEqual(ledger.facts(1), FIRST)
        self.assertEqual(ledger.facts(2), SECOND)
        self.assertEqual(ledger.facts(3), THIRD)

    def test_facts_are_a_list_of_tuples_with_a_number_or_none(self):
        told = ledger_of(FIRST).facts(1)
        self.assertIs(type(told), list)
        for row in told:
            self.assertIs(type(row), tuple)
            self.assertEqual(len(row), 4)
        self.assertEqual([row[3] for row in told], [7, None, 8])

    def test_what_was_written_stays_as_more_is_written(self):
        ledger = ledger_of(FIRST)
        ledger.write(list(SECOND))
        ledger.write(list(THIRD))
        self.assertEqual(ledger.facts(1), FIRST)

    def test_equal_rounds_and_equal_matches(self):
        rows = [(12, 30, 4, 7), (12, 30, 4, 8), (12, 30, 4, None), (12, 30, 4, None)]
        ledger = ledger_of(rows, rows)
        self.assertEqual([ledger.over(), ledger.facts(1), ledger.facts(2)], [2, rows, rows])

    def test_a_round_without_matches(self):
        ledger = ledger_of([])
        self.assertEqual(ledger.over(), 1)
        self.assertEqual(ledger.facts(1), [])
        self.assertIs(type(ledger.facts(1)), list)
        ledger = ledger_of(FIRST, [], SECOND)
        self.assertEqual([ledger.over(), ledger.facts(2), ledger.facts(3)], [3, [], SECOND])

    def test_a_round_whose_matches_nobody_took(self):
        rows = [(1, 2, 3, None), (4, 5, 6, None)]
        self.assertEqual(ledger_of(rows).facts(1), rows)

    def test_60_rounds(self):
        rounds = full_rounds()
        ledger = ledger_of(*rounds)
        self.assertEqual(ledger.over(), 60)
        self.assertEqual([ledger.facts(at) for at in range(1, 61)], rounds)


class NoSuchRoundTest(LedgerCase):
    def test_with_no_round_over(self):
        for at in (0, 1, -1, 2, 60, 10 ** 30, -10 ** 30, HUGE, -HUGE):
            with self.subTest(at=at):
                self.assert_no_such_round(Ledger(), at)

    def test_with_rounds_over(self):
        for rounds in ([FIRST], [[]], [FIRST, SECOND], [FIRST, SECOND, THIRD], full_rounds()):
            count = len(rounds)
            ledger = ledger_of(*rounds)
            for at in (0, -1, -2, -count, count + 1, count + 2, 10 ** 30, -10 ** 30, HUGE, -HUGE):
                with self.subTest(count=count, at=at):
                    self.assert_no_such_round(ledger, at)

    def test_a_round_that_was_refused_is_told_once_it_is_over(self):
        ledger = ledger_of(FIRST)
        self.assert_no_such_round(ledger, 2)
        ledger.write(list(SECOND))
        self.assertEqual(ledger.facts(2), SECOND)


class MetTest(LedgerCase):
    def test_with_a_home_and_with_a_guest(self):
        ledger = ledger_of(FIRST)
        self.assertEqual([ledger.met(7, 12), ledger.met(7, 30)], [1, 1])
        self.assertEqual([ledger.met(8, 31), ledger.met(8, 12)], [1, 1])
        self.assertIs(type(ledger.met(7, 12)), int)

    def test_the_number_of_the_round_is_told(self):
        ledger = ledger_of([], FIRST, [], SECOND, [])
        self.assertEqual([ledger.met(7, 12), ledger.met(8, 31)], [2, 2])
        self.assertEqual([ledger.met(7, 5), ledger.met(7, 6), ledger.met(999, 41)], [4, 4, 4])

    def test_the_last_of_several_rounds_counts(self):
        ledger = Ledger()
        rounds = [[(12, 30, 4, 7)], [(30, 9, 4, 7)], [(9, 12, 4, 8)], [(12, 31, 4, 7)], [(1, 2, 4, 7)]]
        expected = [(1, 1), (1, 2), (1, 2), (4, 2), (4, 2)]
        for rows, lasts in zip(rounds, expected):
            ledger.write(rows)
            self.assertEqual((ledger.met(7, 12), ledger.met(7, 30)), lasts)

    def test_the_other_clubs_of_a_round_are_not_met(self):
        ledger = ledger_of(FIRST)
        self.assertEqual([ledger.met(7, 31), ledger.met(8, 30)], [0, 0])
        self.assertEqual([ledger.met(7, 5), ledger.met(7, 6)], [0, 0])

    def test_a_match_that_nobody_took_is_met_by_nobody(self):
        ledger = ledger_of([(5, 6, 9, None)], [(5, 7, 9, None), (8, 9, 1, None)])
        for number in (1, 5, 6, 7, 8, 9, 999):
            for club in (5, 6, 7, 8, 9):
                self.assertEqual(ledger.met(number, club), 0)

    def test_a_later_match_that_nobody_took_does_not_count(self):
        ledger = ledger_of([(12, 30, 4, 7)], [(12, 30, 4, None)])
        self.assertEqual([ledger.met(7, 12), ledger.met(7, 30)], [1, 1])

    def test_a_later_match_that_another_took_does_not_count(self):
        ledger = ledger_of([(12, 30, 4, 7)], [(12, 30, 4, 8)])
        self.assertEqual([ledger.met(7, 12), ledger.met(8, 12)], [1, 2])

    def test_number_and_club_are_not_mixed_up(self):
        ledger = ledger_of([(12, 30, 4, 7)])
        self.assertEqual([ledger.met(12, 7), ledger.met(30, 7), ledger.met(4, 7), ledger.met(7, 4)], [0, 0, 0, 0])
        self.assertEqual([ledger.met(12, 30), ledger.met(7, 7)], [0, 0])

    def test_any_two_numbers(self):
        strange = (-1, 0, -7, 1000, HUGE, -HUGE)
        for ledger in (Ledger(), ledger_of([]), ledger_of(FIRST, SECOND, THIRD)):
            before = everything(ledger)
            for number in strange:
                self.assertEqual([ledger.met(number, 12), ledger.met(7, number)], [0, 0])
                for club in strange:
                    self.assertEqual(ledger.met(number, club), 0)
            self.assertEqual([ledger.met(7, 99), ledger.met(6, 12), ledger.met(6, 99)], [0, 0, 0])
            self.assertEqual(everything(ledger), before)

    def test_least_and_greatest_numbers(self):
        ledger = ledger_of([(1, 99, 9, 1)], [(99, 1, 1, 999)])
        self.assertEqual([ledger.met(1, 1), ledger.met(1, 99)], [1, 1])
        self.assertEqual([ledger.met(999, 1), ledger.met(999, 99)], [2, 2])

    def test_60_rounds_by_a_walk(self):
        rounds = full_rounds()
        ledger = Ledger()
        for count, rows in enumerate(rounds, start=1):
            ledger.write(list(rows))
            if count in (1, 2, 30, 60):
                for number in range(968, 1002):
                    for club in range(0, 101):
                        self.assertEqual(ledger.met(number, club), last_meeting(rounds[:count], number, club))


class ApartTest(LedgerCase):
    def test_what_is_handed_in_stays_as_it_is(self):
        rows = list(FIRST)
        ledger = Ledger()
        ledger.write(rows)
        ledger.facts(1)
        ledger.met(7, 12)
        self.assertEqual(rows, FIRST)

    def test_a_list_handed_in_and_changed_behind_it_changes_nothing(self):
        ledger = Ledger()
        rows = list(FIRST)
        ledger.write(rows)
        before = everything(ledger)
        rows.append((50, 51, 1, 2))
        rows[0] = (60, 61, 1, 1)
        self.assertEqual(everything(ledger), before)
        rows.clear()
        self.assertEqual(everything(ledger), before)
        self.assertEqual(ledger.facts(1), FIRST)

    def test_one_list_handed_in_twice(self):
        ledger = Ledger()
        rows = list(FIRST)
        ledger.write(rows)
        rows.clear()
        ledger.write(rows)
        self.assertEqual([ledger.facts(1), ledger.facts(2)], [FIRST, []])
        self.assertEqual(ledger.met(7, 12), 1)

    def test_a_told_list_that_is_changed_changes_nothing(self):
        ledger = ledger_of(FIRST, SECOND)
        before = everything(ledger)
        told = ledger.facts(1)
        told.append((50, 51, 1, 2))
        told[0] = (60, 61, 1, 1)
        self.assertEqual(everything(ledger), before)
        told.clear()
        self.assertEqual(everything(ledger), before)

    def test_a_told_list_is_not_the_one_that_was_handed_in(self):
        rows = list(FIRST)
        ledger = Ledger()
        ledger.write(rows)
        told = ledger.facts(1)
        told.clear()
        self.assertEqual(rows, FIRST)
        self.assertIsNot(ledger.facts(1), ledger.facts(1))

    def test_the_list_of_a_round_without_matches_is_a_fresh_one_too(self):
        ledger = ledger_of([], [])
        ledger.facts(1).append((1, 2, 3, 4))
        self.assertEqual([ledger.facts(1), ledger.facts(2)], [[], []])

    def test_a_list_told_earlier_stays_as_more_is_written(self):
        ledger = ledger_of(FIRST)
        told = ledger.facts(1)
        ledger.write(list(SECOND))
        self.assertEqual(told, FIRST)

    def test_two_ledgers_share_nothing(self):
        one = Ledger()
        other = Ledger()
        one.write(list(FIRST))
        self.assertEqual([other.over(), other.met(7, 12)], [0, 0])
        self.assert_no_such_round(other, 1)
        other.write(list(SECOND))
        other.write(list(THIRD))
        self.assertEqual([one.over(), one.facts(1), one.met(7, 5), one.met(7, 12)], [1, FIRST, 0, 1])
        self.assertEqual([other.over(), other.facts(1), other.met(7, 5), other.met(7, 12)], [2, SECOND, 1, 0])
        self.assertEqual(Ledger().over(), 0)

    def test_asking_changes_nothing(self):
        ledger = ledger_of(FIRST, SECOND, THIRD)
        before = everything(ledger)
        ledger.over()
        ledger.facts(2)
        for number in (7, 8, 50):
            ledger.met(number, 12)
            ledger.met(number, 77)
        self.assertEqual(everything(ledger), before)


if __name__ == "__main__":
    unittest.main()
