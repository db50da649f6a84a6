"""Whistlebook: referees for the rounds of a season, and who steps in."""
