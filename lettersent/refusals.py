"""The numbers by which a call is refused."""

NO_SUCH = -2
ONE_ALONE = -6
WRONG = -22
THEY_DO = -33
NOT_BEGUN = -61
