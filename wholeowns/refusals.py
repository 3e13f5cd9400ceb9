"""The numbers that are answered alone when a call is refused."""

NO_SUCH = -2
NONE_TO_TAKE_BACK = -6
BEFORE_BEGIN = -11
NOT_RIGHT = -22
CANNOT_BE = -33
TOO_GREAT = -75
