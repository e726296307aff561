"""The refusals: each is answered alone, and leaves all as it was."""

NOT_THERE = -2
NOBODY = -6
NOT_FREE = -16
ALREADY_SO = -17
NOT_AS_TOLD = -22
NO_MORE = -28
DOES_NOT_DO = -33
