"""What the tests of a season share: asking it everything, refusals, and a plain model of it."""

import copy
import unittest

from oracles import (
    apart, fewest_apart, filled, is_filling, is_shortage, keeps_point_13, weightiest_by_places, weightiest_of_all,
)
from whistlebook import errors
from whistlebook.season import Season

HUGE = 10 ** 60
STRANGERS = (0, -1, 500, 1000, HUGE, -HUGE)


def asked(question, *arguments):
    """What is told, or the class of the refusal."""
    try:
        return question(*arguments)
    except errors.BookError as error:
        return type(error)


def shortage_as_promised(season, at):
    """Of a round over the very lists; of the round at hand only how many fewer referees there are than places."""
    told = asked(season.why, at)
    if type(told) is tuple and at == season.at_hand():
        return len(told[0]) - len(told[1])
    return told


def everything(season, top=6):
    """All that can be asked of a season up to a round, right and wrong, apart from all that is told later."""
    numbers = season.referees() + list(STRANGERS)
    told = {
        "at_hand": season.at_hand(),
        "deeds": season.deeds(),
        "referees": season.referees(),
        "facts": season.facts(),
    }
    for at in [*range(-1, top + 1), HUGE, -HUGE]:
        for name in ("matches", "goes", "left", "chains"):
            told[name, at] = asked(getattr(season, name), at)
        told["why", at] = shortage_as_promised(season, at)
        for number in numbers:
            told["where", at, number] = asked(season.where, at, number)
            told["is_away", at, number] = asked(season.is_away, at, number)
    for number in numbers:
        told["referee", number] = asked(season.referee, number)
    for place in [*range(-1, 8), 19, 20, HUGE, -HUGE]:
        told["may", place] = asked(season.may, place)
        for number in numbers:
            told["reasons", number, place] = asked(season.reasons, number, place)
    return copy.deepcopy(told)


def season_of(rounds, rest, *people):
    season = Season(rounds, rest)
    for number, grade, club in people:
        season.enrol(number, grade, club)
    return season


def mays(season):
    """Who may take each match of the round at hand."""
    return [season.may(place) for place in range(len(season.matches(season.at_hand())))]


def play_out(season, rounds):
    """Draws up and closes empty rounds."""
    for _ in range(rounds):
        season.draw_up([])
        season.close()
    return season


class SeasonCase(unittest.TestCase):
    def assert_refused(self, error, season, name, *arguments):
        before = everything(season)
        handed_in = copy.deepcopy(arguments)
        with self.assertRaises(errors.BookError) as caught:
            getattr(season, name)(*arguments)
        self.assertIs(type(caught.exception), error)
        self.assertEqual(arguments, handed_in)
        self.assertEqual(everything(season), before)

    def assert_weightiest(self, season):
        may = mays(season)
        given = season.goes(season.at_hand())
        self.assertTrue(is_filling(may, given), (may, given))
        self.assertEqual(filled(given), weightiest_by_places(may), (may, given))

    def fall_out(self, season, number):
        """Says that a referee with a match is away now, and holds what is told against points 12, 13 and 17."""
        at = season.at_hand()
        ahead = season.goes(at)
        chains = season.chains(at)
        steps = season.away(at, number)
        gap = [None if one == number else one for one in ahead]
        may = mays(season)
        self.assertTrue(keeps_point_13(may, gap, ahead.index(number), steps), (may, gap, steps))
        self.assertEqual(season.goes(at), [dict(steps).get(place, one) for place, one in enumerate(gap)])
        self.assertEqual(season.chains(at), chains + [(number, steps)])
        self.assertEqual(season.deeds()[-1], ("away", number, at))
        self.assertIs(season.is_away(at, number), True)
        self.assertIsNone(season.where(at, number))
        self.assertTrue(all(number not in numbers for numbers in may))
        self.assert_weightiest(season)
        self.assertTrue(is_shortage(may, season.goes(at), season.why(at)))
        return steps


class Model:
    """A season by the words of the document: what stood ahead of a deed is kept whole, and the bars are walked.

    Who goes where is not promised where there are several ways, so it is taken over from the season, behind a check.
    """

    def __init__(self, rounds, rest):
        self.rounds = rounds
        self.rest = rest
        self.over = []
        self.now = {"people": [], "away": [], "round": None}
        self.ahead = []

    def at_hand(self):
        return len(self.over) + 1

    def numbers(self):
        return [person[0] for person in self.now["people"]]

    def is_over(self):
        return len(self.over) == self.rounds

    def reasons(self, person, match):
        number, grade, club = person
        home, guest, asked_for = match
        last = self.over[-self.rest:] if self.rest else []
        met = any(
            one == number and (home in other[:2] or guest in other[:2])
            for round_over in last for other, one in zip(round_over["matches"], round_over["goes"])
        )
        bars = {
            "away": (self.at_hand(), number) in self.now["away"],
            "grade": asked_for > grade,
            "club": club in (home, guest),
            "met": met,
        }
        return [word for word in ("away", "grade", "club", "met") if bars[word]]

    def may(self, matches):
        return [
            [person[0] for person in self.now["people"] if not self.reasons(person, match)]
            for match in matches
        ]

    def round_of(self, at):
        if at <= len(self.over):
            return self.over[at - 1]
        return self.now["round"] if at == self.at_hand() else None

    # What refuses a call, in the order of the document, or None.

    def why_no_deed(self):
        return errors.TooManyDeeds if len(self.ahead) >= 100 else None

    def why_not_undrawn(self):
        if self.is_over():
            return errors.SeasonOver
        return errors.DrawnUp if self.now["round"] is not None else None

    def why_not_enrol(self, number, grade, club):
        if self.why_not_undrawn():
            return self.why_not_undrawn()
        if not (1 <= number <= 999 and 1 <= grade <= 9 and 1 <= club <= 99):
            return errors.OutOfRange
        if number in self.numbers():
            return errors.KnownReferee
        return errors.TooManyReferees if len(self.numbers()) >= 30 else self.why_no_deed()

    def why_not_draw_up(self, matches):
        if self.why_not_undrawn():
            return self.why_not_undrawn()
        if len(matches) > 20:
            return errors.TooManyMatches
        if not all(1 <= home <= 99 and 1 <= guest <= 99 and 1 <= grade <= 9 for home, guest, grade in matches):
            return errors.OutOfRange
        return errors.SameClub if any(match[0] == match[1] for match in matches) else self.why_no_deed()

    def why_not_away(self, at, number):
        if not 1 <= at <= self.rounds:
            return errors.NoSuchRound
        if at <= len(self.over):
            return errors.RoundOver
        if number not in self.numbers():
            return errors.UnknownReferee
        return errors.AwayAlready if (at, number) in self.now["away"] else self.why_no_deed()

    def why_not_close(self):
        if self.is_over():
            return errors.SeasonOver
        return errors.NotDrawn if self.now["round"] is None else None

    def why_not_take_back(self):
        return None if self.ahead else errors.NothingToTakeBack

    # What the calls do, once they are taken.

    def deed(self, word, number, at):
        self.ahead.append(((word, number, at), copy.deepcopy(self.now)))

    def enrol(self, number, grade, club):
        self.deed("enrol", number, self.at_hand())
        self.now["people"].append((number, grade, club))

    def draw_up(self, matches, goes):
        self.deed("draw up", len(matches), self.at_hand())
        self.now["round"] = {
            "matches": list(matches), "goes": list(goes), "chains": [], "may": self.may(matches),
        }

    def away(self, at, number, steps):
        self.deed("away", number, at)
        self.now["away"].append((at, number))
        drawn = self.now["round"]
        if at == self.at_hand() and drawn is not None:
            drawn["may"] = self.may(drawn["matches"])
            if number in drawn["goes"]:
                drawn["goes"][drawn["goes"].index(number)] = None
                drawn["chains"].append((number, list(steps)))
                for place, one in steps:
                    drawn["goes"][place] = one

    def close(self, why):
        self.over.append({**copy.deepcopy(self.now["round"]), "why": why})
        self.now["round"] = None
        self.ahead = []

    def take_back(self):
        deed, self.now = self.ahead.pop()
        return deed

    # What the questions tell.

    def everything(self, top=6):
        numbers = self.numbers() + list(STRANGERS)
        told = {
            "at_hand": self.at_hand(),
            "deeds": [deed for deed, _ in self.ahead],
            "referees": self.numbers(),
            "facts": [
                [(*match, number) for match, number in zip(one["matches"], one["goes"])] for one in self.over
            ],
        }
        for at in [*range(-1, top + 1), HUGE, -HUGE]:
            self.tell_round(told, at, numbers)
        for number in numbers:
            told["referee", number] = errors.UnknownReferee
        for number, grade, club in self.now["people"]:
            told["referee", number] = (grade, club)
        for place in [*range(-1, 8), 19, 20, HUGE, -HUGE]:
            self.tell_place(told, place, numbers)
        return told

    def tell_round(self, told, at, numbers):
        known = 1 <= at <= self.rounds
        one = self.round_of(at) if known else None
        refusal = None if one else errors.NotDrawn if known else errors.NoSuchRound
        for name in ("matches", "goes", "chains"):
            told[name, at] = refusal or one[name]
        told["left", at] = refusal or [place for place, number in enumerate(one["goes"]) if number is None]
        told["why", at] = refusal or one.get("why", one["goes"].count(None))
        for number in numbers:
            unknown = None if number in self.numbers() else errors.UnknownReferee
            if refusal or unknown:
                told["where", at, number] = refusal or unknown
            else:
                told["where", at, number] = one["goes"].index(number) if number in one["goes"] else None
            if known:
                told["is_away", at, number] = unknown or (at, number) in self.now["away"]
            else:
                told["is_away", at, number] = errors.NoSuchRound

    def tell_place(self, told, place, numbers):
        drawn = self.now["round"]
        refusal = None if drawn else errors.NotDrawn
        nowhere = None if drawn and 0 <= place < len(drawn["matches"]) else errors.NoSuchMatch
        told["may", place] = refusal or nowhere or drawn["may"][place]
        for number in numbers:
            told["reasons", number, place] = refusal or errors.UnknownReferee
        for person in self.now["people"]:
            told["reasons", person[0], place] = (
                refusal or nowhere or self.reasons(person, drawn["matches"][place])
            )


class Pair:
    """A season and its model, which are told the same and compared behind each call."""

    def __init__(self, case, rounds, rest, small=True):
        self.case = case
        self.season = Season(rounds, rest)
        self.model = Model(rounds, rest)
        self.top = rounds + 1
        # Only small rounds can be held against all fillings.
        self.small = small
        self.chains = []

    def call(self, name, *arguments):
        expected = getattr(self.model, "why_not_" + name)(*arguments)
        if expected is not None:
            self.case.assertIs(asked(getattr(self.season, name), *arguments), expected, (name, arguments))
        else:
            getattr(self, name)(*arguments)
        self.compare()

    def compare(self):
        self.case.assertEqual(everything(self.season, self.top), self.model.everything(self.top))
        drawn = self.model.now["round"]
        if drawn is not None:
            may, given = drawn["may"], drawn["goes"]
            self.case.assertTrue(is_filling(may, given), (may, given))
            best = weightiest_of_all(may) if self.small else weightiest_by_places(may)
            self.case.assertEqual(filled(given), best, (may, given))
            self.case.assertTrue(is_shortage(may, given, self.season.why(self.model.at_hand())))

    def enrol(self, number, grade, club):
        self.case.assertIsNone(self.season.enrol(number, grade, club))
        self.model.enrol(number, grade, club)

    def draw_up(self, matches):
        handed_in = list(matches)
        self.model.draw_up(matches, self.season.draw_up(handed_in))
        self.case.assertEqual(handed_in, matches)

    def away(self, at, number):
        drawn = copy.deepcopy(self.model.now["round"])
        steps = self.season.away(at, number)
        self.model.away(at, number, steps)
        if at != self.model.at_hand() or drawn is None or number not in drawn["goes"]:
            self.case.assertEqual(steps, [])
            return
        may = self.model.now["round"]["may"]
        gap = [None if one == number else one for one in drawn["goes"]]
        self.case.assertTrue(keeps_point_13(may, gap, drawn["goes"].index(number), steps), (may, gap, steps))
        if self.small:
            behind = self.model.now["round"]["goes"]
            self.case.assertEqual(apart(drawn["goes"], behind), fewest_apart(may, drawn["goes"]))
        self.chains.append(steps)

    def close(self):
        at = self.model.at_hand()
        why = self.season.why(at)
        self.case.assertEqual(self.season.close(), at)
        self.model.close(why)

    def take_back(self):
        self.case.assertEqual(self.season.take_back(), self.model.take_back())
