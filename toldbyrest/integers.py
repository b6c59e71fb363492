"""What integers, values and indexes are: True and False are none of them."""

from toldbyrest.errors import InvalidNumber


def is_integer(thing):
    """Return whether a thing is an integer."""
    return isinstance(thing, int) and not isinstance(thing, bool)


def is_value(thing):
    """Return whether a thing is an integer from 0 on."""
    return is_integer(thing) and thing >= 0


def is_index(thing, many):
    """Return whether a thing is an index of one of so many things."""
    return is_value(thing) and thing < many


def check_number(number):
    """Raise InvalidNumber for what is no integer from 0 on."""
    if not is_value(number):
        raise InvalidNumber("this is no integer from 0 on")
