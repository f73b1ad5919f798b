"""The numbers that the document fixes: how much there may be of each thing, and what refuses a call."""

MOST_ACTS = 8
LEAST_STATES = 2
MOST_STATES = 6
MOST_DUTIES = 16
MOST_LINKS = 12
MOST_WEIGHT = 50
LAST_DAY = 10000
MOST_BACK = 20

NONE_THERE = -2
NO_SUCH = -6
THERE_ALREADY = -17
NOT_ALLOWED = -22
FULL = -28
OUT_OF_REACH = -33
