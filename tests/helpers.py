"""What several tests share."""

# Values of each kind that may be anything, and that are no tuples.
OTHER_KINDS = [None, True, False, -1, 0, 1, 10 ** 39, "", "a", "at", [], ["a"], {}, {"a": 1}]


def raised(call, *told):
    """The error that a call raises, or None."""
    try:
        call(*told)
    except (ValueError, LookupError) as error:
        return error
    return None


def path_of(call, *told):
    """The path of the BadTree that a call raises, or None if it raises nothing."""
    error = raised(call, *told)
    if error is None:
        return None
    assert error.__class__.__name__ == "BadTree", error
    assert all(is_plain_integer(k) for k in error.path) and type(error.path) is tuple
    return error.path


def place_of(call, *told):
    """The place of the BadText that a call raises, or None if it raises nothing."""
    error = raised(call, *told)
    if error is None:
        return None
    assert error.__class__.__name__ == "BadText", error
    return error.place


def is_plain_integer(value):
    return type(value) is int


def parts_of(value, path=()):
    """The paths of a value and of all that is in it, with what they lead to."""
    yield path, value
    if isinstance(value, tuple):
        for k, part in enumerate(value):
            yield from parts_of(part, path + (k,))


def put(value, path, part):
    """A value with another part at a path."""
    if not path:
        return part
    k = path[0]
    return value[:k] + (put(value[k], path[1:], part),) + value[k + 1:]


def nested(depth, core=1):
    """A tuple in a list in a tuple and so on."""
    for k in range(depth):
        core = (core,) if k % 2 else [core]
    return core
