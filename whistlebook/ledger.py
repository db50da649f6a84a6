"""The ledger: the rounds that are over, and who met whom in them."""

from whistlebook.errors import NoSuchRound


class Ledger:
    def __init__(self):
        self.rounds = []
        # (referee, club) -> the last round of a meeting, so that no question walks all rounds.
        self.meetings = {}

    def write(self, rows):
        # A tuple, since what was written stays as it is.
        self.rounds.append(tuple(rows))
        at = len(self.rounds)
        for home, guest, grade, referee in rows:
            if referee is not None:
                self.meetings[(referee, home)] = at
                self.meetings[(referee, guest)] = at

    def over(self):
        return len(self.rounds)

    def facts(self, at):
        if at < 1 or at > len(self.rounds):
            raise NoSuchRound(f"round {at} is not over")
        return list(self.rounds[at - 1])

    def met(self, number, club):
        return self.meetings.get((number, club), 0)
