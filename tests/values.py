"""Values that are wrong in many places."""

NO_INTEGERS = (
    True, False, None, "", "0", "1", "less", (), (0,), (1, 2), [], [0], [1, 2], [None, "a"], [[1]],
)
BIG = 10 ** 9
HUGE = 10 ** 18
