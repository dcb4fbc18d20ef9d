"""What tells plain things from all others: numbers, names and tuples.

Each of these is asked of anything, so the kind is looked at first, and exactly:
nothing of a strange object's own (its length, its comparison) is ever run.
"""

FIRST_TOO_GREAT = 1000000000
LONGEST_NAME = 12


def is_number(thing):
    """Whether the thing is a whole number of at most nine figures."""
    return type(thing) is int and -FIRST_TOO_GREAT < thing < FIRST_TOO_GREAT


def is_name(thing):
    """Whether the thing is a text of one to twelve small letters."""
    if type(thing) is not str or not 1 <= len(thing) <= LONGEST_NAME:
        return False
    return all("a" <= sign <= "z" for sign in thing)


def is_tuple(thing, least, most):
    """Whether the thing is a tuple of at least and at most so many things."""
    return type(thing) is tuple and least <= len(thing) <= most
