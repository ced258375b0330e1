"""The numbers that stand for a refusal."""

NO_RECORD = -2
NO_HEAD = -3
TOO_LONG = -4
WRONG_HEAD_SUM = -5
OUT_OF_RANGE = -8
