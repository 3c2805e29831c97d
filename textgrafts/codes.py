"""The codes with which an error result begins."""

LIMITS_EXCEEDED = -1
NO_BRANCH = -2
NOT_THERE = -3
DEPENDENCIES = -4
CONFLICTS = -5
NOTHING_CHANGES = -6
TOO_MANY = -8
