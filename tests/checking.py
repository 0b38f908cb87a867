"""What the tests ask of calls that go wrong."""

import copy

from holedwindows.errors import BadNumber, WindowError


def raised(call, arguments):
    """Return the error of the package that a call raises, None if it raises none."""
    try:
        call(*arguments)
    except WindowError as error:
        return error
    return None


def assert_raises(test, kind, call, arguments):
    """Check that a call raises just this kind of error, and leaves its arguments be."""
    before = copy.deepcopy(arguments)
    error = raised(call, arguments)
    test.assertIs(type(error), kind, (call.__name__, repr(kind)))
    test.assertEqual(arguments, before)
    return error


def assert_bad_number(test, call, arguments, value):
    """Check that a call raises BadNumber with this value, and of the same kind."""
    error = assert_raises(test, BadNumber, call, arguments)
    test.assertIs(type(error.n), type(value))
    test.assertEqual(error.n, value)


def assert_order(test, call, good, wrong, order=None):
    """Check which error is raised, whichever of the arguments are wrong.

    `wrong` has a pair (value, kind of error) for each argument, None for one that
    is left as it is. `order` has the places of the arguments in the order in which
    their errors are named, if this is not that of the arguments.
    """
    order = [at for at in (order or range(len(good))) if wrong[at] is not None]
    for chosen in range(1, 2 ** len(order)):
        arguments = list(good)
        picked = [wrong[at] for bit, at in enumerate(order) if chosen & (1 << bit)]
        for bit, at in enumerate(order):
            if chosen & (1 << bit):
                arguments[at] = wrong[at][0]
        value, kind = picked[0]
        if kind is BadNumber:
            assert_bad_number(test, call, arguments, value)
        else:
            assert_raises(test, kind, call, arguments)


def assert_field(test, kind, call, arguments, field, value):
    """Check that a call raises this kind of error, with this value in its field."""
    error = assert_raises(test, kind, call, arguments)
    test.assertEqual(vars(error), {field: value}, (call.__name__, arguments))
    test.assertIs(type(getattr(error, field)), type(value))
