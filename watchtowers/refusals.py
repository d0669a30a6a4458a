"""The numbers by which a call is refused."""

NO_TOWER = -2
NO_CHANGE = -6
NOT_RISING = -16
SO_ALREADY = -17
WRONG_NUMBER = -22
THERE_IS_NONE = -33
