"""What the tests share: wrong values, other forms of a value, calls that watch their arguments."""

import copy

from slipworth.errors import BadValue


def nested(depth, inside=()):
    """A value that is depth levels deep, lists and tuples in turn."""
    for level in range(depth):
        inside = [inside] if level % 2 else (inside,)
    return inside


# No argument of any kind may be one of these, except is_machine's and is_table's.
NOTHINGS = (None, True, False, -1, 10 ** 30, -10 ** 30, nested(20), [nested(19), nested(19, "a")])
NO_WORDS = NOTHINGS + (
    0, 1, (), [], ("a",), ["a", "b"], "g", "A", "a b", " ", "a\n", "\n", "-", "0", "abcg", "a" * 4999 + "z",
    "a\nb" * 1000)


def no_integers(low, high):
    """Values that are no integers from low to high."""
    return NOTHINGS + (low - 1, high + 1, str(low), "", "a", (low,), [low], (), [])


def as_lists(value):
    """The same with lists for tuples at every level."""
    return [as_lists(part) for part in value] if isinstance(value, (list, tuple)) else value


def as_tuples(value):
    """The same with tuples for lists at every level."""
    return tuple(as_tuples(part) for part in value) if isinstance(value, (list, tuple)) else value


def in_turn(value, listed=True):
    """The same with lists and tuples in turn from level to level."""
    if not isinstance(value, (list, tuple)):
        return value
    parts = [in_turn(part, not listed) for part in value]
    return parts if listed else tuple(parts)


def forms(value):
    """The value in all forms that count as the same."""
    return as_tuples(value), as_lists(value), in_turn(value), in_turn(value, False)


def is_plain(value):
    """Whether value is made of tuples, integers, strings, True, False and None of no class of their own."""
    if type(value) is tuple:
        return all(is_plain(part) for part in value)
    return type(value) in (int, str, bool, type(None))


def run(function, *given, **named):
    """What the function returns; fails if it changes its arguments or returns what is not plain."""
    before = repr((given, named))
    kept = copy.deepcopy((given, named))
    try:
        result = function(*given, **named)
    finally:
        assert repr((given, named)) == before, f"{function.__name__} changed {before}"
        assert (given, named) == kept
    assert is_plain(result), f"{function.__name__} returned {result!r}"
    return result


def refused_at(function, *given, **named):
    """The position that BadValue tells, None if the function raises no BadValue."""
    try:
        run(function, *given, **named)
    except BadValue as error:
        assert type(error.at) is int
        return error.at
    return None
