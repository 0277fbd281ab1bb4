"""What an integer, a bit and a name are (point 100)."""

from probewright.limits import MOST_NAME

_LETTERS = "abcdefghijklmnopqrstuvwxyz"
_CHARACTERS = "abcdefghijklmnopqrstuvwxyz0123456789_"


def is_integer(value, least, greatest):
    """Tell whether a value is an integer of this range, both ends included."""
    # True and False are of the class int, too, but are not integers here.
    if not isinstance(value, int) or isinstance(value, bool):
        return False
    return least <= value <= greatest


def is_bit(value):
    """Tell whether a value is the integer 0 or 1."""
    return is_integer(value, 0, 1)


def are_bits(value, count):
    """Tell whether a value is a tuple of so many bits."""
    if not isinstance(value, tuple) or len(value) != count:
        return False
    return all([is_bit(item) for item in value])


def is_name(value):
    """Tell whether a value is a name."""
    # The empty string has no first character to look at.
    if not isinstance(value, str) or value == "":
        return False
    if len(value) > MOST_NAME or value[0] not in _LETTERS:
        return False
    return all([sign in _CHARACTERS for sign in value])
