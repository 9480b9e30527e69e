"""The numbers that answer a call which is refused."""

# Beside the refusals: what a check answers when it finds nothing against a call.
NO_REFUSAL = 0

WRONG = -1
UNKNOWN = -2
AWAY = -3
OUT_OF_ORDER = -4
FULL = -5
NOT_THE_MOVER = -6
NOTHING_SUCH = -6
NO_QUORUM = -7
