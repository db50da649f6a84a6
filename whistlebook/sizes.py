"""The greatest numbers and counts that the book takes."""

MOST_NUMBER = 999
MOST_GRADE = 9
MOST_CLUB = 99
MOST_REFEREES = 30
MOST_MATCHES = 20
MOST_ROUNDS = 60
MOST_REST = 10
MOST_DEEDS = 100
