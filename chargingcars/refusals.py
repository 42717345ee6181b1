"""The numbers of the refusals."""

OUT_OF_BOUNDS = -1
TOO_LONG = -2
NO_DAY = -3
NO_SUCH = -4
NOT_FILLED = -5
FAULT = -6
SIX_CARS = -7
