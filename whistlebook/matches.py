"""The matches of a round: which lists of them are taken."""

from whistlebook.errors import SameClub, TooManyMatches
from whistlebook.ranges import check_range
from whistlebook.sizes import MOST_CLUB, MOST_GRADE, MOST_MATCHES


def check_count(matches):
    count = len(matches)
    if count > MOST_MATCHES:
        raise TooManyMatches(f"{count} matches are more than {MOST_MATCHES}")


def check_ranges(matches):
    for home, guest, grade in matches:
        check_range(home, 1, MOST_CLUB)
        check_range(guest, 1, MOST_CLUB)
        check_range(grade, 1, MOST_GRADE)


def check_clubs(matches):
    for home, guest, grade in matches:
        if home == guest:
            raise SameClub(f"club {home} is home and guest of one match")


def checked(matches):
    # A walk of its own for each refusal: it is asked of the whole list before the next one is.
    check_count(matches)
    check_ranges(matches)
    check_clubs(matches)
    return list(matches)
