"""Lists of items that are enough for something, and lists that are not."""

from toldbyrest.bits import numbers_of


def least_enough(listed, enough):
    """Return the ascending list of the sublists that are enough, but are not if any item is left out.

    The list is ascending. `enough` is a function of a sublist that returns a bool; what is
    enough stays so with more items.
    """
    found = _are_enough(listed, enough)
    return _sublists(listed, [
        number for number in range(len(found)) if found[number] and not _is_less_enough(found, number)
    ])


def greatest_wanting(listed, enough):
    """Return the ascending list of the sublists that are not enough, but are with any further item."""
    found = _are_enough(listed, enough)
    return _sublists(listed, [
        number for number in range(len(found)) if not found[number] and _is_more_enough(found, number)
    ])


def _are_enough(listed, enough):
    """Return for each sublist whether it is enough; the bits of its number tell which items it has."""
    # If all items are not enough, there is no need to try some of them.
    if not enough(listed):
        return [False] * (1 << len(listed))
    found = []
    for number in range(1 << len(listed)):
        found.append(_is_less_enough(found, number) or enough(_sublist(listed, number)))
    return found


def _is_less_enough(found, number):
    """Return whether a sublist is enough without some item of it."""
    return any([found[number - (1 << at)] for at in numbers_of(number)])


def _is_more_enough(found, number):
    """Return whether a sublist is enough with any further item."""
    return all([found[number | bit] for bit in _bits_below(len(found)) if not number & bit])


def _bits_below(many):
    return [1 << at for at in range(many.bit_length() - 1)]


def _sublist(listed, number):
    return [listed[at] for at in numbers_of(number)]


def _sublists(listed, numbers):
    return sorted([_sublist(listed, number) for number in numbers])
