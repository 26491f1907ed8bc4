"""The numbers that are answered when a call is refused."""

WRONG_ARGUMENTS = -1
NOT_THERE = -2
NOT_AS_TOLD = -3
NOT_NOW = -4
NO_ROOM = -5
TOO_LONG = -7
