"""What the tests ask of calls that go wrong."""

import copy

from holedwindows.errors import BadNumber, WindowError


def raised(call, arguments):
    """Return the error of the package that a call raises, None if it raises none."""
    try:
        call(*arguments)
    except WindowError as error:
        return error
    return None


def assert_raises(test, kind, call, arguments):
    """Check that a call raises just this kind of error, and leaves its arguments be."""
    before = copy.deepcopy(arguments)
    error = raised(call, arguments)
    test.assertIs(type(error), kind, (call.__name__, repr(kind)))
    test.assertEqual(arguments, before)
    return error


def assert_bad_number(test, call, arguments, value):
    """Check that a call raises BadNumber with this value, and of the same kind."""
    error = assert_raises(test, BadNumber, call, arguments)
    test.assertIs(type(error.n), type(value))
    test.assertEqual(error.n, value)


def assert_order(test, call, good, wrong):
    """Check which error is raised, whichever of the arguments are wrong.

    `wrong` has a pair (value, kind of error) for each argument, and the errors
    are named in the order of the arguments.
    """
    for chosen in range(1, 2 ** len(good)):
        arguments = list(good)
        first = None
        for at, (value, kind) in enumerate(wrong):
            if chosen & (1 << at):
                arguments[at] = value
                first = first if first is not None else (value, kind)
        value, kind = first
        if kind is BadNumber:
            assert_bad_number(test, call, arguments, value)
        else:
            assert_raises(test, kind, call, arguments)
