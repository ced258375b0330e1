"""The numbers that stand for a refusal."""

NO_RECORD = -2
TOO_LONG = -4
OUT_OF_RANGE = -8
