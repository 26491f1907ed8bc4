"""The numbers that are answered when a call is refused."""

WRONG_ARGUMENTS = -1
NOT_THERE = -2
NO_ROOM = -5
