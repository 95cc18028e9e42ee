"""How much a town, a log and what is asked of them can have at most."""

MOST_SLOTS = 8
MOST_STANDS = 5
MOST_SIZE = 40
MOST_ROADS = 12
MOST_TIME = 3
MOST_FACTS = 12
MOST_NUMBER = 9999
MOST_READINGS = 6
MOST_CHANGES = 5
