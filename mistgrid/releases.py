"""Releases: what of a table is given out at a safe coarsening."""

from mistgrid.basics import is_tuple
from mistgrid.errors import Unsafe
from mistgrid.tables import are_secrets, groups_of, is_coarsening, is_good, is_key


def release_of(table, levels, rule):
    """The release of the table at the coarsening, or NoLevel, Unsafe."""
    rows = table[1]
    good = []
    bad = []
    for key, numbers in groups_of(table, levels):
        secrets = tuple(sorted([rows[number][1] for number in numbers]))
        if is_good(secrets, rule):
            good.append((key, secrets))
        else:
            bad.append((key, secrets))
    if sum([len(secrets) for _, secrets in bad]) > rule[2]:
        raise Unsafe(tuple([key for key, _ in bad]))
    return levels, tuple(good)


def is_release(ladders, thing):
    """Whether the thing, anything at all, is a release for the ladders."""
    if not is_tuple(thing, 2, 2):
        return False
    levels, groups = thing
    if not is_coarsening(ladders, levels) or type(groups) is not tuple:
        return False
    if not all(_is_group(ladders, levels, group) for group in groups):
        return False
    keys = [key for key, _ in groups]
    return all([one < other for one, other in zip(keys, keys[1:])])


def _is_group(ladders, levels, thing):
    return is_tuple(thing, 2, 2) and is_key(ladders, levels, thing[0]) and are_secrets(thing[1])
