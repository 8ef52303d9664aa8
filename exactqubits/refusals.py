"""The numbers below 0 that answers begin with where something is refused."""

NO_SUCH = -1
TOO_LARGE = -2
TOO_FINE = -3
NEVER = -4
TOO_MANY = -5
FAULTY = -6
SECOND_FAULTY = -7
NOT_BEGUN = -10
