"""The bars between a referee and a match of the round at hand."""


def met_lately(number, club, ledger, rest):
    # Not below 0: that is what the ledger tells of two that never met.
    rested = max(ledger.over() - rest, 0)
    return ledger.met(number, club) > rested


def reasons(referee, match, out, ledger, rest):
    number = referee[0]
    grade = referee[1]
    club = referee[2]
    home = match[0]
    guest = match[1]
    asked = match[2]
    told = []
    if out:
        told.append("away")
    if asked > grade:
        told.append("grade")
    if club == home or club == guest:
        told.append("club")
    if met_lately(number, home, ledger, rest) or met_lately(number, guest, ledger, rest):
        told.append("met")
    return told


def takers(people, match, out, ledger, rest):
    return [person[0] for person in people if not reasons(person, match, person[0] in out, ledger, rest)]
