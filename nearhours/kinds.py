"""Which kinds of values there are. All functions but the last one accept any value."""

from math import gcd


def is_integer(thing):
    """Whether it is an int that is not a bool."""
    return isinstance(thing, int) and not isinstance(thing, bool)


def is_number(thing):
    """Whether it is an integer that is at least 0."""
    return is_integer(thing) and thing >= 0


def is_name(thing):
    """Whether it is a string of one to eight lowercase letters."""
    if not isinstance(thing, str) or not 1 <= len(thing) <= 8:
        return False
    return thing.isascii() and thing.isalpha() and thing.islower()


def is_towers(thing):
    """Whether it is a set of one or more names."""
    if not isinstance(thing, tuple) or len(thing) == 0:
        return False
    return all([is_name(name) for name in thing]) and is_ascending(thing)


def is_fraction(thing):
    """Whether it is a pair of integers in least terms, the second one 1 or more."""
    if not are_integers(thing, 2):
        return False
    return thing[1] >= 1 and gcd(thing[0], thing[1]) == 1


def is_letter_form(thing):
    """Whether it is a quadruple of two names and two integers."""
    if not is_tuple(thing, 4):
        return False
    return is_name(thing[0]) and is_name(thing[1]) and are_integers(thing[2:], 2)


def is_index(thing, many):
    """Whether it is an index of so many things."""
    return is_number(thing) and thing < many


def is_tuple(thing, many):
    """Whether it is a tuple of so many elements."""
    return isinstance(thing, tuple) and len(thing) == many


def are_integers(thing, many):
    """Whether it is a tuple of so many integers."""
    return is_tuple(thing, many) and all([is_integer(number) for number in thing])


def are_fractions(thing, many):
    """Whether it is a tuple of so many fractions."""
    return is_tuple(thing, many) and all([is_fraction(one) for one in thing])


def is_ascending(row):
    """Whether each element of a row of strings or of integers is less than the next one."""
    return all([row[k - 1] < row[k] for k in range(1, len(row))])
