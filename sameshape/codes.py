"""The order of scalars, and the codes of elements."""

# The greatest integer that is a scalar.
FAR = 1000000000000000


def compare_scalars(a, b):
    """Return -1, 0 or 1 if the scalar a comes before b, equals b or comes after b."""
    if isinstance(a, str) != isinstance(b, str):
        return 1 if isinstance(a, str) else -1
    if a == b:
        return 0
    return -1 if a < b else 1


def order_of(scalar):
    """Return a value by which scalars are sorted in their order."""
    return (isinstance(scalar, str), scalar)


def digits_of(number):
    """Return the four digits of a number in base 65536, the most significant digit first."""
    return ((number >> 48) & 65535, (number >> 32) & 65535, (number >> 16) & 65535, number & 65535)


def scalar_code(scalar):
    """Return the code of a scalar."""
    if isinstance(scalar, str):
        return (3, len(scalar)) + tuple([ord(letter) for letter in scalar])
    if scalar < 0:
        return (2,) + digits_of(-scalar)
    return (1,) + digits_of(scalar)


def code_of(element):
    """Return the code of an element."""
    if isinstance(element, tuple):
        return (4,) + scalar_code(element[0]) + scalar_code(element[1])
    return scalar_code(element)
