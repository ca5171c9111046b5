"""The numbers of the refusals; where one number says two things, it has two names."""

NOT_ALLOWED = -1
WRONG_CHOICES = -2
NOT_AS_THINGS_STAND = -3
NO_SUCH = -4
NOT_FREE = -5
SAYS_STOP = -5
TRAINS_ALL_USED = -6
WAY_TOO_FAR = -7
ROUTE_IS_SET = -8
NO_TRACK = -9
