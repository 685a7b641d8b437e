"""The numbers that are answered for what is refused."""

NOT_THERE = -2
NOBODY = -6
PAIRED = -16
HOLDS_ALREADY = -17
WRONG = -22
FULL = -28
CANNOT = -33
