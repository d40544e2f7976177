"""The limits of a session and of the years that it speaks of."""

MOST_UNITS = 12
MOST_FACTS = 40
FIRST_YEAR = -5000
LAST_YEAR = 2100
