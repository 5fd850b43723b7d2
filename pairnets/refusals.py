"""The numbers that refused calls answer."""

TOO_HIGH = -1
FULL = -2
NO_ROOM = -3
NOT_THERE = -4
TAKEN = -5
NOT_JOINED = -5
NO_RULE_ROW = -6
UNEVEN = -7
NOT_WHOLE = -9
NO_RECORD = -10
