"""The numbers by which a call is refused."""

NONE_THERE = -2
NOT_AS_THINGS_ARE = -16
SO_ALREADY = -17
WRONG_NUMBER = -22
NO_MORE_OF_THEM = -28
MAY_NOT = -33
NO_ROOM_ABOARD = -62
TOO_LATE = -75
