"""The numbers by which a call is refused."""

NO_SUCH = -2
NOT_LAID = -6
NOT_BEGUN = -11
TOO_LITTLE = -12
ALREADY = -17
OUT_OF_RANGE = -22
TOO_MANY = -28
CANNOT_BE = -33
TOO_NEAR = -40
