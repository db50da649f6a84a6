"""The shortage: why matches are left without a referee."""

from whistlebook.chains import places_taken, steps_into
from whistlebook.filling import left_without


def shortage(may, given):
    # Whoever may take one of these matches has one of them: a free referee would fill a match more.
    taken = places_taken(given)
    places = {}
    for gap in left_without(given):
        places.update(steps_into(may, taken, gap))
    referees = {}
    for place in places:
        for number in may[place]:
            referees[number] = True
    return (sorted(places), sorted(referees))
