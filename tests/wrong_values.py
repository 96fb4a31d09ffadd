"""Values that are no numbers, and numbers that are out of range, for the tests of wrong inputs."""

NO_NUMBERS = (True, False, None, "", "0", "1", (), (0,), (1, 1), [], [0], [1, 1])

LAST = 10 ** 18
OUT_OF_RANGE = (-1, LAST + 1, -LAST, 10 ** 5000)
