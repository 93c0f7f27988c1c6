"""The codes that are answered in place of a result."""

NO_SUCH_INDEX = -2
NO_INSTANCE = -11
OUT_OF_RANGE = -22
LIST_FULL = -28
