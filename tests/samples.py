"""Values that several tests use."""

import copy

LONGEST_INT = 10 ** 40 - 1

# Neither an excess nor a weight.
WRONG_NUMBERS = (
    None, True, False, 0, -1, 10 ** 6 + 1, 10 ** 9, LONGEST_INT, -LONGEST_INT,
    "", "1", "a", (), (1,), [], [1], {}, {"1": 1},
)


def nested(levels, wrap):
    """Return a value that is nested as many levels as told."""
    value = 1
    for _ in range(levels):
        value = wrap(value)
    return value


def odd_values():
    """Return values of all kinds, of which none is a tower and only () is a group."""
    return [
        None, True, False, 0, 1, -1, 2, 10 ** 6, LONGEST_INT, -LONGEST_INT,
        "", "1", "ab", "tower", "x" * 2000, "1 / 1,3", "one\ntwo",
        (), ((),), ((), ()), (None,), (None, None), (True,), (False,), ("0",), ("a", "b"),
        [], [0], [0, 1], [2, (1, 3)], [[], []], [None] * 1000,
        {}, {"0": 0}, {"excess": 2, "weights": (1, 3)}, {"a": {"b": [{"c": ()}]}},
        (0,) * 1000, ((0,),), ([0],), ({},), (0, (1,)), (0, "1"), (None, 0),
        nested(20, lambda inner: (inner,)), nested(20, lambda inner: [inner]),
        nested(20, lambda inner: {"inner": inner}),
    ]


def answer_twice(test, function, *arguments):
    """Call twice, check that the answers agree and no argument has changed, and return the answer."""
    kept = copy.deepcopy(arguments)
    answer = function(*arguments)
    again = function(*copy.deepcopy(arguments))
    test.assertEqual(repr(answer), repr(again))
    test.assertEqual(repr(arguments), repr(kept))
    return answer


def check_equal(test, one, other, expected):
    """Check == and != of two values, both ways."""
    test.assertIs(one == other, expected)
    test.assertIs(other == one, expected)
    test.assertIs(one != other, not expected)
    test.assertIs(other != one, not expected)


# What a part of a value may be replaced with.
PARTS = (None, True, False, 0, 1, 2, -1, 10 ** 6, LONGEST_INT, "", "plan", (), (0,), ((), ()), [], [0], {})


def replaced(value, parts=PARTS):
    """Return the value with each of its tuples' items, at any depth, replaced with each of the parts."""
    found = list(parts)
    if isinstance(value, tuple):
        for at, item in enumerate(value):
            found += [value[:at] + (other,) + value[at + 1:] for other in replaced(item, parts)]
    return found


def reshaped(value):
    """Return the value with each of its tuples, at any depth, as a list, with an item left out, or with one twice."""
    found = []
    if isinstance(value, tuple):
        found.append(list(value))
        for at, item in enumerate(value):
            found.append(value[:at] + value[at + 1:])
            found.append(value[:at] + (item,) + value[at:])
            found += [value[:at] + (other,) + value[at + 1:] for other in reshaped(item)]
    return found
