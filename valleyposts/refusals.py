"""What a call answers that is refused."""

NOT_THERE = -2
NO_POSTS = -6
HAS_POST = -16
SO_ALREADY = -17
OUT_OF_RANGE = -22
FULL = -28
CANNOT_BE = -33
