"""The numbers that are answered where a call is refused."""

NONE_SUCH = -2
NONE_OR_LESS = -6
NOT_BEGUN = -11
TOO_LITTLE = -12
MUST_REST = -13
TOO_OLD = -14
NOT_SO = -16
OUT_OF_RANGE = -22
TOO_MANY = -28
MORE_THAN_MAY_BE = -75
