"""Checks of calls that raise errors."""


def check_raises(test, shape, value, function, *arguments, **named):
    """Check that the call raises an error of just this class, and that its one field is just this value."""
    kept = repr((arguments, named))
    with test.assertRaises(shape) as caught:
        function(*arguments, **named)
    test.assertIs(type(caught.exception), shape, arguments)
    fields = list(vars(caught.exception).values())
    test.assertEqual(len(fields), 1)
    if isinstance(value, (list, dict)):
        test.assertIs(fields[0], value)
    test.assertEqual(repr(fields[0]), repr(value), arguments)
    test.assertEqual(repr((arguments, named)), kept)


def check_raises_bare(test, shape, function, *arguments, **named):
    """Check that the call raises an error of just this class, which has no fields."""
    kept = repr((arguments, named))
    with test.assertRaises(shape) as caught:
        function(*arguments, **named)
    test.assertIs(type(caught.exception), shape, arguments)
    test.assertEqual(vars(caught.exception), {})
    test.assertEqual(repr((arguments, named)), kept)


def check_only_read(test, thing, name):
    """Check that the attribute of the object is there and can't be assigned or deleted."""
    kept = getattr(thing, name)
    with test.assertRaises(AttributeError):
        setattr(thing, name, kept)
    with test.assertRaises(AttributeError):
        delattr(thing, name)
    test.assertEqual(repr(getattr(thing, name)), repr(kept))
