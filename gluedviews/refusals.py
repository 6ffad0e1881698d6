"""The numbers below 0 that a call can answer."""

NO_SUCH_VIEW = -2
NONE_FOUND = -6
NOT_BEGUN = -11
SAME_VIEW = -17
NOT_AS_TOLD = -22
TOO_MANY_VIEWS = -28
NOT_ALL_AGREE = -30
NOT_A_TREE = -33
