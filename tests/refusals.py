"""Assertions about errors, and values of other kinds."""

# None of these is a number. The document lets any of them be an invalid argument.
NO_NUMBERS = [True, False, None, "", "0", "1", (), (0,), (1,), [], [0], [1]]

# None of these is a tuple.
NO_TUPLES = [None, True, False, 0, 1, 7, "", "11", [], [1, 1], [2, 3]]

# None of these is a list.
NO_LISTS = [None, True, False, 0, 1, "", "0", (), (0,), (0, 1), ((0, 0),), ((0, 0), (0, 1))]


def refuse(test, error, call, *arguments):
    """Assert that a call raises this error itself, not one of another class, and return the error."""
    with test.assertRaises(error) as caught:
        call(*arguments)
    test.assertIs(caught.exception.__class__, error, arguments)
    return caught.exception
