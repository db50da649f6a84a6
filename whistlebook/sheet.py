"""The sheet of a round that is drawn up: its matches, who may take them, and who goes where."""

from whistlebook.chains import chain, stepped
from whistlebook.errors import NoSuchMatch
from whistlebook.filling import fill, left_without, place_of
from whistlebook.shortage import shortage


class Sheet:
    # No sheet is ever changed: what changes a round tells another sheet. So one that is kept stays as it stood.

    def __init__(self, listed, lists, given, gaps):
        self.listed = listed
        self.lists = lists
        self.given = given
        self.gaps = gaps

    def barred(self, lists):
        return Sheet(self.listed, lists, self.given, self.gaps)

    def fallen_out(self, number, lists):
        place = self.where(number)
        gap = stepped(self.given, [(place, None)])
        steps = chain(lists, gap, place)
        return Sheet(self.listed, lists, stepped(gap, steps), self.gaps + [(number, steps)])

    def matches(self):
        return list(self.listed)

    def match_at(self, place):
        self.check_place(place)
        return self.listed[place]

    def may(self, place):
        self.check_place(place)
        return list(self.lists[place])

    def check_place(self, place):
        if place < 0 or place >= len(self.listed):
            raise NoSuchMatch(f"no match has the place {place}")

    def goes(self):
        return list(self.given)

    def where(self, number):
        return place_of(self.given, number)

    def left(self):
        return left_without(self.given)

    def why(self):
        return shortage(self.lists, self.given)

    def chains(self):
        return [(number, list(steps)) for number, steps in self.gaps]

    def rows(self):
        return [match + (number,) for match, number in zip(self.listed, self.given)]


def drawn_sheet(listed, lists):
    return Sheet(listed, lists, fill(lists), [])
