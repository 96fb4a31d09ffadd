"""Values that are no numbers, for the tests of wrong inputs."""

NO_NUMBERS = (True, False, None, "", "0", "1", (), (0,), (1, 1), [], [0], [1, 1])
