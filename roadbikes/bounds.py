"""The limits of roads, people, plans and trips."""

LIMIT = 10 ** 7
MAX_TICKS = 1000
MAX_STAGES = 12
MAX_BIKES = 12
MAX_PEOPLE = 10
MAX_START = 10 ** 6
SMALL_PLANS = 5000
MAX_EDITS = 60
BATCH = 20
