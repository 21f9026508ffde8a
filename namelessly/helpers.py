"""What all files of the package ask of plain values."""

LETTERS = "abcdefghijklmnopqrstuvwxyz"
DIGITS = "0123456789"


def is_word(value):
    """Whether a value is 1 to 8 letters a to z, perhaps with 1 to 4 digits behind them."""
    if not isinstance(value, str):
        return False
    letters = value.rstrip(DIGITS)
    if not 1 <= len(letters) <= 8 or len(value) - len(letters) > 4:
        return False
    return all([letter in LETTERS for letter in letters])


def is_integer(value):
    """Whether a value is an integer; True and False are none."""
    return isinstance(value, int) and not isinstance(value, bool)


def is_number(value, least):
    """Whether a value is an integer from least on; True and False are none."""
    return is_integer(value) and value >= least


def is_index(value, many):
    """Whether a value is the number of one of so many things, counted from 0; True and False are none."""
    return is_number(value, 0) and value < many


def kept(value):
    """An equal value that shares no list and no dict with this one."""
    if isinstance(value, list):
        return [kept(part) for part in value]
    if isinstance(value, tuple):
        return tuple([kept(part) for part in value])
    if isinstance(value, dict):
        return {key: kept(value[key]) for key in value}
    return value
