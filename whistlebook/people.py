"""The roster: the referees, each with a grade and a club."""

from whistlebook.errors import KnownReferee, TooManyReferees, UnknownReferee
from whistlebook.ranges import check_range
from whistlebook.sizes import MOST_CLUB, MOST_GRADE, MOST_NUMBER, MOST_REFEREES


class Roster:
    def __init__(self):
        # A dict keeps the order in which its keys came: that is the order of adding.
        self.entries = {}

    def check_new(self, number, grade, club):
        check_range(number, 1, MOST_NUMBER)
        check_range(grade, 1, MOST_GRADE)
        check_range(club, 1, MOST_CLUB)
        if number in self.entries:
            raise KnownReferee(f"referee {number} is on the roster already")
        if len(self.entries) >= MOST_REFEREES:
            raise TooManyReferees(f"there are {MOST_REFEREES} referees on the roster already")

    def check_known(self, number):
        if number not in self.entries:
            raise UnknownReferee(f"referee {number} is not on the roster")

    def add(self, number, grade, club):
        self.check_new(number, grade, club)
        self.entries[number] = (grade, club)

    def strike(self, number):
        self.entries.pop(number)

    def has(self, number):
        return number in self.entries

    def numbers(self):
        return list(self.entries)

    def entry(self, number):
        self.check_known(number)
        return self.entries[number]

    def grade(self, number):
        return self.entry(number)[0]

    def club(self, number):
        return self.entry(number)[1]

    def person(self, number):
        return (number,) + self.entry(number)
