"""Fillings: which referee goes to which match of a round."""

from whistlebook.chains import chain, stepped


def fill(may):
    given = [None for numbers in may]
    for place in range(len(may)):
        # Only matches ahead in weight have a referee yet. So the chain either finds a free one and keeps all
        # of them filled, or is the one step that leaves this match, the least in weight so far, without.
        given = stepped(given, chain(may, given, place))
    return given


def left_without(given):
    return [place for place, number in enumerate(given) if number is None]


def place_of(given, number):
    return given.index(number) if number in given else None


def weightier(one, other):
    for ours, theirs in zip(one, other):
        if (ours is None) != (theirs is None):
            return theirs is None
    return False
