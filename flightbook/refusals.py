"""The numbers by which calls are refused, without the minus sign that each is answered with."""

UNKNOWN = 2
IN_NONE = 11
TOO_EARLY = 13
BUSY = 16
TOLD_OTHERWISE = 17
INVALID = 22
FULL = 28
BARRED = 33
OUT_OF_STEP = 71
