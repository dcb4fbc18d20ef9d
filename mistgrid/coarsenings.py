"""All coarsenings of a table together, and how many rows each of them leaves out."""

from mistgrid.basics import is_tuple
from mistgrid.ladders import levels_of
from mistgrid.tables import MOST_LADDERS, column_of, is_good


def whole_box(ladders):
    """The lowest and the highest coarsening."""
    low = tuple([0 for _ in ladders])
    high = tuple([levels_of(ladder) - 1 for ladder in ladders])
    return low, high


def all_between(low, high):
    """All coarsenings over the low and beneath the high one, by the order of tuples."""
    told = [()]
    for first, last in zip(low, high):
        told = [levels + (level,) for levels in told for level in range(first, last + 1)]
    return told


def all_left_out(table, rule):
    """How many rows each coarsening leaves out, a dict by the order of tuples."""
    ladders, rows = table
    secrets = [secret for _, secret in rows]
    # Each column is made once here, and not once more for each coarsening that has it.
    sheet = []
    for at, ladder in enumerate(ladders):
        sheet.append([column_of(table, at, level) for level in range(levels_of(ladder))])
    low, high = whole_box(ladders)
    told = {}
    for levels in all_between(low, high):
        columns = [sheet[at][level] for at, level in enumerate(levels)]
        told[levels] = _left_out(list(zip(*columns)), secrets, rule)
    return told


def is_one_of(counts, thing):
    """Whether the thing, anything at all, is one of the coarsenings that the dict has."""
    # The kinds are looked at first, as a truth would be found in the place of its number.
    if not is_tuple(thing, 1, MOST_LADDERS) or not all(type(level) is int for level in thing):
        return False
    return thing in counts


def _left_out(keys, secrets, rule):
    found = {}
    for key, secret in zip(keys, secrets):
        found.setdefault(key, []).append(secret)
    return sum([len(group) for group in found.values() if not is_good(group, rule)])
