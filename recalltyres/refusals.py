"""The numbers by which a call is refused."""

NO_SUCH = -2
NONE_THERE = -6
NOT_BEGUN = -11
IS_RECALLED = -13
NOT_SO = -16
SO_ALREADY = -17
OUT_OF_RANGE = -22
TOO_MANY = -28
NONE_FITS = -33
