"""Checks of plain arguments, powers of ten and decimal digits, for all modules."""

from figurestay.errors import BadValue

TENS = (
    1,
    10,
    100,
    1000,
    10000,
    100000,
    1000000,
    10000000,
    100000000,
    1000000000,
    10000000000,
    100000000000,
    1000000000000,
    10000000000000,
    100000000000000,
    1000000000000000,
)


def is_an_integer(value):
    """Whether a value is an int that is not a bool."""
    return isinstance(value, int) and not isinstance(value, bool)


def is_whole_number(value):
    """Whether a value is an integer from 0 on."""
    return is_an_integer(value) and value >= 0


def is_integer_from_1(value):
    """Whether a value is an integer from 1 on."""
    return is_an_integer(value) and value >= 1


def is_name(value):
    """Whether a value is a string of 1 to 8 letters from a to z."""
    if not isinstance(value, str) or not 1 <= len(value) <= 8:
        return False
    return value.isascii() and value.isalpha() and value.islower()


def need_integer(value):
    """BadValue for a value that is no integer."""
    if not is_an_integer(value):
        raise BadValue(value)


def need_whole_number(value):
    """BadValue for a value that is no whole number."""
    if not is_whole_number(value):
        raise BadValue(value)


def need_name(value):
    """BadValue for a value that is no name."""
    if not is_name(value):
        raise BadValue(value)


def need_list(value):
    """BadValue for a value that is neither a list nor a tuple."""
    if not isinstance(value, (list, tuple)):
        raise BadValue(value)


def need_dict(value):
    """BadValue for a value that is no dict."""
    if not isinstance(value, dict):
        raise BadValue(value)


def ten_to(places):
    """10 raised to a whole number of places."""
    if places < len(TENS):
        return TENS[places]
    half = ten_to(places // 2)
    if places % 2 == 1:
        return half * half * 10
    return half * half


def digits_of(number):
    """The decimal digits of a whole number of any size.

    Python refuses to write thousands of digits at once, so a long number is written in two halves.
    """
    if number.bit_length() < 2000:
        return str(number)
    places = number.bit_length() * 3 // 20
    ahead, behind = divmod(number, ten_to(places))
    return "".join([digits_of(ahead), digits_of(behind).zfill(places)])
