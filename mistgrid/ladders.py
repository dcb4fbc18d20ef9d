"""Ladders, by which values are made coarser: of numbers and of names."""

from mistgrid.basics import FIRST_TOO_GREAT, is_name, is_number, is_tuple
from mistgrid.errors import NoLevel

TOP = "*"
MOST_STEPS = 6
MOST_NAMES = 60


def is_ladder(thing):
    """Whether the thing, anything at all, is a ladder."""
    if not is_tuple(thing, 2, 2):
        return False
    kind, parts = thing
    if type(kind) is not str:
        return False
    if kind == "num":
        return _are_steps(parts)
    return kind == "tree" and _are_names(parts)


def is_value(ladder, thing):
    """Whether the thing, anything at all, is a value of the ladder."""
    kind, parts = ladder
    if kind == "num":
        return is_number(thing)
    return is_name(thing) and thing in _lowest(parts)


def levels_of(ladder):
    """How many levels the ladder has."""
    kind, parts = ladder
    if kind == "num":
        return len(parts) + 2
    return _way_up(_above_of(parts), _lowest(parts)[0]) + 1


def is_level(ladder, thing):
    """Whether the thing, anything at all, is a level of the ladder."""
    return type(thing) is int and 0 <= thing < levels_of(ladder)


def coarse(ladder, value, level):
    """What the value is at the level, or NoLevel."""
    if not is_level(ladder, level):
        raise NoLevel("the ladder has no such level")
    return all_coarse(ladder, [value], level)[0]


def all_coarse(ladder, values, level):
    """What each of the values is at a level that the ladder has, a list."""
    kind, parts = ladder
    if level == 0:
        return list(values)
    if level == levels_of(ladder) - 1:
        return [TOP for _ in values]
    if kind == "num":
        step = parts[level - 1]
        return [value // step * step for value in values]
    above = _above_of(parts)
    return [_climb(above, value, level) for value in values]


def is_coarse(ladder, thing, level):
    """Whether the thing, anything at all, is what some value is at a level that the ladder has."""
    kind, parts = ladder
    if level == levels_of(ladder) - 1:
        return type(thing) is str and thing == TOP
    if kind == "tree":
        return is_name(thing) and thing in all_coarse(ladder, _lowest(parts), level)
    if type(thing) is not int:
        return False
    # Below all numbers there is but what the least number is at the level.
    nearest = max(thing, 1 - FIRST_TOO_GREAT)
    return is_number(nearest) and all_coarse(ladder, [nearest], level) == [thing]


def _are_steps(parts):
    if not is_tuple(parts, 0, MOST_STEPS):
        return False
    # All whole numbers are multiples of 1, so ahead of the first step stands a 1.
    ahead = 1
    for step in parts:
        if not is_number(step) or step <= ahead or step % ahead != 0:
            return False
        ahead = step
    return True


def _are_names(parts):
    if not is_tuple(parts, 1, MOST_NAMES) or not all(_is_row(row) for row in parts):
        return False
    above = _above_of(parts)
    if len(above) != len(parts) or None in [_way_up(above, name) for name in above]:
        return False
    ways = [_way_up(above, name) for name in _lowest(parts)]
    return max(ways) <= MOST_STEPS and min(ways) == max(ways)


def _is_row(thing):
    # Which texts may stand above is seen on the way up, where all names are known.
    return is_tuple(thing, 2, 2) and is_name(thing[0]) and type(thing[1]) is str


def _above_of(rows):
    return {name: above for name, above in rows}


def _lowest(rows):
    """The names that are no row's above: the values."""
    taken = {above: True for _, above in rows}
    return [name for name, _ in rows if name not in taken]


def _way_up(above, name):
    """How many steps lead from the name to the top; None where they never come there."""
    steps = 0
    while name != TOP:
        # More steps than there are names have led round.
        if name not in above or steps == len(above):
            return None
        name = above[name]
        steps += 1
    return steps


def _climb(above, name, steps):
    for _ in range(steps):
        name = above[name]
    return name
