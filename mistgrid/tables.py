"""Tables and rules; the groups of a table at a coarsening, and whether it is safe."""

from mistgrid.basics import is_name, is_number, is_tuple
from mistgrid.errors import NoLevel
from mistgrid.ladders import all_coarse, is_coarse, is_ladder, is_level, is_value

MOST_LADDERS = 4
MOST_ROWS = 60


def is_table(thing):
    """Whether the thing, anything at all, is a table."""
    if not is_tuple(thing, 2, 2):
        return False
    ladders, rows = thing
    if not are_ladders(ladders) or not is_tuple(rows, 0, MOST_ROWS):
        return False
    return all(is_row(ladders, row) for row in rows)


def are_ladders(thing):
    """Whether the thing, anything at all, is a tuple of as many ladders as a table may have."""
    return is_tuple(thing, 1, MOST_LADDERS) and all(is_ladder(part) for part in thing)


def are_publics(ladders, thing):
    """Whether the thing, anything at all, is a tuple of a value for each ladder."""
    if not is_tuple(thing, len(ladders), len(ladders)):
        return False
    return all([is_value(ladder, value) for ladder, value in zip(ladders, thing)])


def is_row(ladders, thing):
    """Whether the thing, anything at all, may be a row of a table of the ladders."""
    return is_tuple(thing, 2, 2) and are_publics(ladders, thing[0]) and is_name(thing[1])


def is_coarsening(ladders, thing):
    """Whether the thing, anything at all, is a tuple of a level for each ladder."""
    if not is_tuple(thing, len(ladders), len(ladders)):
        return False
    return all([is_level(ladder, level) for ladder, level in zip(ladders, thing)])


def is_key(ladders, levels, thing):
    """Whether the thing, anything at all, is a tuple of what values of the ladders are at the levels."""
    if not is_tuple(thing, len(ladders), len(ladders)):
        return False
    return all([is_coarse(ladder, part, level) for ladder, part, level in zip(ladders, thing, levels)])


def are_secrets(thing):
    """Whether the thing, anything at all, is a tuple of one name at least, by letters."""
    if type(thing) is not tuple or len(thing) == 0:
        return False
    return all(is_name(part) for part in thing) and list(thing) == sorted(thing)


def is_rule(thing):
    """Whether the thing, anything at all, is a rule."""
    if not is_tuple(thing, 3, 3) or not all(is_number(part) for part in thing):
        return False
    return thing[0] >= 1 and thing[1] >= 1 and thing[2] >= 0


def beneath(one, other):
    """Whether the one coarsening is beneath the other one of the same table."""
    return all([low <= high for low, high in zip(one, other)])


def groups_of(table, levels):
    """The groups, a list of (key, numbers of its rows) by the keys' order, or NoLevel."""
    found = {}
    for number, key in enumerate(_keys_of(table, levels)):
        found.setdefault(key, []).append(number)
    return [(key, tuple(found[key])) for key in sorted(found)]


def failing(table, levels, rule):
    """The groups that are not good, told as groups_of tells groups, or NoLevel."""
    rows = table[1]
    return [
        (key, numbers)
        for key, numbers in groups_of(table, levels)
        if not is_good([rows[number][1] for number in numbers], rule)
    ]


def is_safe(table, levels, rule):
    """Whether no more rows than the rule allows stand in groups that are not good, or NoLevel."""
    return left_out(table, levels, rule) <= rule[2]


def left_out(table, levels, rule):
    """How many rows stand in groups that are not good, or NoLevel."""
    return sum(len(numbers) for _, numbers in failing(table, levels, rule))


def is_good(secrets, rule):
    """Whether a group whose rows have these secrets, a list, is good."""
    rows_needed, secrets_needed, _ = rule
    return len(secrets) >= rows_needed and len(set(secrets)) >= secrets_needed


def column_of(table, at, level):
    """What the rows' publics of one ladder are at a level that it has, a list."""
    ladders, rows = table
    return all_coarse(ladders[at], [publics[at] for publics, _ in rows], level)


def _keys_of(table, levels):
    """The key of each row, in the rows' order."""
    if not is_coarsening(table[0], levels):
        raise NoLevel("not a level for each ladder of the table")
    # Column by column, so that a ladder is looked through once and not for each row.
    columns = [column_of(table, at, level) for at, level in enumerate(levels)]
    return list(zip(*columns))
