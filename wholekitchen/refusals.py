"""The answers below 0, named by what is wrong."""

NOT_THERE = -2
IN_USE = -16
ALREADY_SO = -17
OUT_OF_RANGE = -22
NO_ROOM = -28
NO_RECIPE = -71
TOO_MUCH = -75
