"""The refusals, without their sign: an answer has it below 0, GRANTED means that nothing is refused."""

GRANTED = 0
BEYOND = 1
MISSING = 2
FULL = 5
NO_ROOM = 6
NONE_COUNTS = 6
NOWHERE = 7
NOT_NOW = 8
WRONG_POWER = 9
