"""The season: its referees, its rounds one behind the other, and the deeds of the round at hand."""

from whistlebook.bars import reasons, takers
from whistlebook.errors import AwayAlready, DrawnUp, NoSuchRound, NotDrawn, NothingToTakeBack, RoundOver
from whistlebook.errors import SeasonOver, TooManyDeeds
from whistlebook.ledger import Ledger
from whistlebook.matches import checked
from whistlebook.people import Roster
from whistlebook.ranges import check_range
from whistlebook.sheet import drawn_sheet
from whistlebook.sizes import MOST_DEEDS, MOST_REST, MOST_ROUNDS


class Season:
    def __init__(self, rounds, rest):
        check_range(rounds, 0, MOST_ROUNDS)
        check_range(rest, 0, MOST_REST)
        self.length = rounds
        self.rest = rest
        self.roster = Roster()
        self.ledger = Ledger()
        # (round, referee) -> True for each who is away.
        self.absent = {}
        # The sheets of the rounds over, and that of the round at hand once it is drawn up.
        self.sheets = []
        self.sheet = None
        # Each deed that stands, with the sheet ahead of it, which a taking back puts in its place again.
        self.standing = []

    def check_not_over(self):
        if self.at_hand() > self.length:
            raise SeasonOver("all rounds of the season are over")

    def check_undrawn(self):
        self.check_not_over()
        if self.sheet is not None:
            raise DrawnUp("the round at hand is drawn up already")

    def check_round(self, at):
        if at < 1 or at > self.length:
            raise NoSuchRound(f"{at} is no round of the season")

    def check_room(self):
        if len(self.standing) >= MOST_DEEDS:
            raise TooManyDeeds(f"{MOST_DEEDS} deeds of the round at hand stand already")

    def note(self, word, number, at):
        self.standing.append(((word, number, at), self.sheet))

    def sheet_at_hand(self):
        if self.sheet is None:
            raise NotDrawn("the round at hand is not drawn up")
        return self.sheet

    def sheet_of(self, at):
        self.check_round(at)
        if at <= self.ledger.over():
            return self.sheets[at - 1]
        if at > self.at_hand():
            raise NotDrawn(f"round {at} is not drawn up yet")
        return self.sheet_at_hand()

    def takers_of(self, listed):
        people = [self.roster.person(number) for number in self.roster.numbers()]
        at = self.at_hand()
        out = [number for number in self.roster.numbers() if (at, number) in self.absent]
        return [takers(people, match, out, self.ledger, self.rest) for match in listed]

    def enrol(self, number, grade, club):
        self.check_undrawn()
        self.roster.check_new(number, grade, club)
        self.check_room()
        self.note("enrol", number, self.at_hand())
        self.roster.add(number, grade, club)

    def draw_up(self, matches):
        self.check_undrawn()
        listed = checked(matches)
        self.check_room()
        self.note("draw up", len(listed), self.at_hand())
        self.sheet = drawn_sheet(listed, self.takers_of(listed))
        return self.sheet.goes()

    def away(self, at, number):
        self.check_round(at)
        if at <= self.ledger.over():
            raise RoundOver(f"round {at} is over")
        self.roster.check_known(number)
        if (at, number) in self.absent:
            raise AwayAlready(f"referee {number} is away in round {at} already")
        self.check_room()
        self.note("away", number, at)
        self.absent[(at, number)] = True
        if at > self.at_hand() or self.sheet is None:
            return []
        return self.step_in(number)

    def step_in(self, number):
        lists = self.takers_of(self.sheet.matches())
        if self.sheet.where(number) is None:
            self.sheet = self.sheet.barred(lists)
            return []
        self.sheet = self.sheet.fallen_out(number, lists)
        fallen = self.sheet.chains()
        return fallen[-1][1]

    def close(self):
        self.check_not_over()
        sheet = self.sheet_at_hand()
        self.ledger.write(sheet.rows())
        self.sheets.append(sheet)
        self.sheet = None
        self.standing = []
        return self.ledger.over()

    def take_back(self):
        if not self.standing:
            raise NothingToTakeBack("no deed of the round at hand stands")
        last = self.standing.pop()
        deed = last[0]
        self.sheet = last[1]
        if deed[0] == "enrol":
            self.roster.strike(deed[1])
        if deed[0] == "away":
            self.absent.pop((deed[2], deed[1]))
        return deed

    def at_hand(self):
        return self.ledger.over() + 1

    def deeds(self):
        return [deed for deed, sheet in self.standing]

    def referees(self):
        return self.roster.numbers()

    def referee(self, number):
        return self.roster.entry(number)

    def is_away(self, at, number):
        self.check_round(at)
        self.roster.check_known(number)
        return (at, number) in self.absent

    def matches(self, at):
        return self.sheet_of(at).matches()

    def goes(self, at):
        return self.sheet_of(at).goes()

    def where(self, at, number):
        sheet = self.sheet_of(at)
        self.roster.check_known(number)
        return sheet.where(number)

    def left(self, at):
        return self.sheet_of(at).left()

    def why(self, at):
        return self.sheet_of(at).why()

    def chains(self, at):
        return self.sheet_of(at).chains()

    def may(self, place):
        return self.sheet_at_hand().may(place)

    def reasons(self, number, place):
        sheet = self.sheet_at_hand()
        person = self.roster.person(number)
        match = sheet.match_at(place)
        out = self.is_away(self.at_hand(), number)
        return reasons(person, match, out, self.ledger, self.rest)

    def facts(self):
        return [self.ledger.facts(at) for at in range(1, self.at_hand())]
