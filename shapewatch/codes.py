"""The error codes that refused calls are answered by."""

NO_MONITOR = -11
MISSING = -2
OUT_OF_LIMITS = -22
THERE_ALREADY = -17
FULL = -28
NOT_EQUIVALENT = -33
TOO_LARGE = -75
VIOLATED = -30
