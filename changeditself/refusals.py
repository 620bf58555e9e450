"""The numbers that are answered alone where a call is refused."""

NO_SUCH = -2
NOT_BEGUN = -11
ALREADY_PROMISED = -17
NOT_AS_TOLD = -22
FULL = -28
NOT_KEPT = -30
NO_ACT = -33
