"""Integers that stand for many numbered things at once: a bit for each of them."""


def bits_of(flags):
    """Return the integer that has the bit of each number at which a flag is True."""
    return sum([1 << number for number, flag in enumerate(flags) if flag])


def numbers_of(bits):
    """Return the ascending list of the numbers whose bits an integer has."""
    return [number for number in range(bits.bit_length()) if bits >> number & 1]


def some_number(bits):
    """Return any number whose bit an integer has; it has some."""
    return bits.bit_length() - 1
