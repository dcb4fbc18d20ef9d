"""The border between the safe coarsenings of a table and the unsafe ones."""

from mistgrid.basics import is_tuple
from mistgrid.coarsenings import all_left_out, is_one_of


def border_of(table, rule):
    """The least safe coarsenings and the greatest unsafe ones, two lists."""
    counts = all_left_out(table, rule)
    safe = {levels: counts[levels] <= rule[2] for levels in counts}
    # What is over a safe one is safe, so the nearest ones tell of all that are further off.
    least = [
        levels for levels in safe
        if safe[levels] and not any([safe[lower] for lower in _next_lower(levels)])
    ]
    greatest = [
        levels for levels in safe
        if not safe[levels] and all([safe.get(higher, True) for higher in _next_higher(levels)])
    ]
    return least, greatest


def border_holds(table, rule, border):
    """Whether the border, anything at all, is one that holds for the table and the rule."""
    if not is_tuple(border, 2, 2):
        return False
    counts = all_left_out(table, rule)
    if not _are_rising(counts, border[0]) or not _are_rising(counts, border[1]):
        return False
    low, high = border
    allowed = rule[2]
    if not all(counts[levels] <= allowed for levels in low):
        return False
    if not all(counts[levels] > allowed for levels in high):
        return False
    over = _reached(list(counts), low, _next_lower)
    under = _reached(list(reversed(list(counts))), high, _next_higher)
    return all(over[levels] or under[levels] for levels in counts)


def _next_lower(levels):
    """The coarsenings that are lower by one level of one ladder."""
    return [_changed(levels, at, level - 1) for at, level in enumerate(levels) if level > 0]


def _next_higher(levels):
    """What is higher by one level of one ladder, be it a coarsening or beyond all of them."""
    return [_changed(levels, at, level + 1) for at, level in enumerate(levels)]


def _changed(levels, at, level):
    return levels[:at] + (level,) + levels[at + 1:]


def _are_rising(counts, thing):
    """Whether the thing, anything at all, is a tuple of coarsenings, each greater than the last."""
    if type(thing) is not tuple or not all(is_one_of(counts, part) for part in thing):
        return False
    return all([one < other for one, other in zip(thing, thing[1:])])


def _reached(order, chosen, nearest):
    """Of each coarsening whether one comes from it to a chosen one by the nearest ones ahead of it."""
    starts = {levels: True for levels in chosen}
    told = {}
    for levels in order:
        told[levels] = levels in starts or any([told.get(near, False) for near in nearest(levels)])
    return told
