"""What coarsenings lose, the least loss of the safe ones, and papers that show it."""

from mistgrid.basics import is_tuple
from mistgrid.coarsenings import all_between, all_left_out, is_one_of, whole_box
from mistgrid.tables import beneath, left_out

OUT = 50


class Prices:
    """What coarsenings of a table lose, and boxes at least, where it is known how many rows they leave out."""

    def __init__(self, table, rule, costs, out):
        self.rows = len(table[1])
        self.most_out = min(rule[2], self.rows)
        self.costs = costs
        self.out = out

    def loss(self, levels, rows_out):
        """The loss at the levels where so many rows are left out."""
        cost = sum([of_ladder[level] for of_ladder, level in zip(self.costs, levels)])
        return (self.rows - rows_out) * cost + rows_out * self.out

    def bound(self, box, rows_out):
        """The bound of the box where so many rows are left out at its high end, or None."""
        low, high = box
        if rows_out > self.most_out:
            return None
        if low == high:
            return self.loss(low, rows_out)
        return min(self.loss(low, rows_out), self.loss(low, self.most_out))


def loss_of(table, levels, rule, costs, *, out=OUT):
    """The loss of the coarsening, safe or not, or NoLevel."""
    rows_out = left_out(table, levels, rule)
    return Prices(table, rule, costs, out).loss(levels, rows_out)


def bound_of(table, rule, costs, box, *, out=OUT):
    """What no safe coarsening in the box has a loss below; None where none in it is safe."""
    rows_out = left_out(table, box[1], rule)
    return Prices(table, rule, costs, out).bound(box, rows_out)


def least_loss(table, rule, costs, *, out=OUT):
    """The least loss of all safe coarsenings and the first one that has it, or None."""
    return _least(Prices(table, rule, costs, out), all_left_out(table, rule))


def loss_paper(table, rule, costs, *, out=OUT):
    """A paper that holds for what least_loss tells."""
    prices = Prices(table, rule, costs, out)
    counts = all_left_out(table, rule)
    least = _least(prices, counts)
    boxes = []
    waiting = [whole_box(table[0])]
    while len(waiting) > 0:
        box = waiting.pop()
        if _is_enough(prices.bound(box, counts[box[1]]), least):
            boxes.append(box)
        else:
            waiting.extend(_halves(box))
    return tuple(boxes)


def paper_holds(table, rule, costs, told, paper, *, out=OUT):
    """Whether the paper, anything at all, is one that holds for what is told."""
    prices = Prices(table, rule, costs, out)
    counts = all_left_out(table, rule)
    if not _have_each_once(counts, paper):
        return False
    if told is not None and not _is_so(prices, counts, told):
        return False
    return all([_is_enough(prices.bound(box, counts[box[1]]), told) for box in paper])


def _least(prices, counts):
    found = [
        (prices.loss(levels, rows_out), levels)
        for levels, rows_out in counts.items()
        if rows_out <= prices.most_out
    ]
    return min(found, default=None)


def _is_enough(bound, told):
    """Whether a box of that bound has nothing better than what is told."""
    return bound is None or told is not None and bound >= told[0]


def _halves(box):
    """The box in two, parted where it is widest; it has two coarsenings at least."""
    low, high = box
    widths = [last - first for first, last in zip(low, high)]
    at = widths.index(max(widths))
    middle = (low[at] + high[at]) // 2
    lower = (low, high[:at] + (middle,) + high[at + 1:])
    upper = (low[:at] + (middle + 1,) + low[at + 1:], high)
    return [lower, upper]


def _have_each_once(counts, paper):
    """Whether the paper is a tuple of boxes of which just one has each coarsening."""
    if type(paper) is not tuple:
        return False
    taken = set()
    for box in paper:
        if not _is_box(counts, box):
            return False
        low, high = box
        for levels in all_between(low, high):
            if levels in taken:
                return False
            taken.add(levels)
    return len(taken) == len(counts)


def _is_box(counts, thing):
    if not is_tuple(thing, 2, 2) or not is_one_of(counts, thing[0]) or not is_one_of(counts, thing[1]):
        return False
    return beneath(thing[0], thing[1])


def _is_so(prices, counts, told):
    """Whether the told coarsening is safe and has the told loss."""
    if not is_tuple(told, 2, 2) or not is_one_of(counts, told[1]):
        return False
    loss, levels = told
    rows_out = counts[levels]
    return type(loss) is int and rows_out <= prices.most_out and prices.loss(levels, rows_out) == loss
