"""What a call leads to, as a value that can be compared."""

from slowleaders.errors import RoadError


def outcome(call, *arguments):
    """Return what a call returns, or the name and the attributes of the error that it raises."""
    try:
        return ("returns", call(*arguments))
    except RoadError as error:
        return ("raises", type(error).__name__, dict(vars(error)))


def returns(value):
    return ("returns", value)


def raises(error, /, **attributes):
    return ("raises", error, attributes)
