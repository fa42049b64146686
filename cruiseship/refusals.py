"""The numbers with which calls are refused."""

NONE_THERE = -2
NO_DRILL = -6
TOO_LITTLE = -12
NOT_NOW = -16
SO_ALREADY = -17
NOT_AS_TOLD = -22
TOO_MANY = -28
NOT_FITTING = -33
NO_ROOM = -62
TOO_LATE = -75
