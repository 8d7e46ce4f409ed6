"""The error codes: each is the only number of its answer."""

NO_INSTANCE = -11
NO_SUCH_INDEX = -2
OUT_OF_RANGE = -22
TOO_MANY_MOULDS = -28
NO_BEST_PLAN = -33
