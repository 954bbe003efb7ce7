"""The answers below 0, named by what is wrong."""

NOT_THERE = -2
IN_USE = -16
NOT_TODAY = -16
ALREADY_SO = -17
OUT_OF_RANGE = -22
NO_ROOM = -28
NOT_LAID = -33
NOT_ENOUGH = -61
NO_RECIPE = -71
TOO_MUCH = -75
