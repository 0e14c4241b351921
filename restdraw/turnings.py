"""Neighbours in turn as they are drawn; what rows of places go round, and whether they bend."""

from restdraw.errors import Folded
from restdraw.fractions import less, plus, sign, times
from restdraw.meetings import all_at_hand, hand, must_be_unlike
from restdraw.webs import from_least


def is_late(here, point):
    """Whether the way leads down, or straight to the left: the second half of a turn that begins at the right."""
    rise = sign(less(point[1], here[1]))
    return rise < 0 or rise == 0 and sign(less(point[0], here[0])) < 0


def comes_ahead(here, point, other):
    """Whether a turn to the left that begins at the right comes to the point ahead of the other one."""
    late = is_late(here, point)
    if late != is_late(here, other):
        return not late
    return hand(here, point, other) > 0


def row_turned(web, drawing, place):
    """The row of a place as its neighbours stand in turn; refused with Folded."""
    here = drawing[place]
    row = web[place]
    # Sorted by how many others come ahead, as directions have no number that could be sorted by.
    counts = [len([r for r in row if comes_ahead(here, drawing[r], drawing[q])]) for q in row]
    placed = dict(zip(counts, row))
    if len(placed) < len(row):
        raise Folded(place)
    return from_least([placed[at] for at in range(len(row))])


def turned(web, drawing):
    """The web with its rows in turn as they are drawn."""
    must_be_unlike(drawing)
    return tuple([row_turned(web, drawing, p) for p in range(len(web))])


def area(drawing, row):
    """Twice what the row of places goes round, above 0 where it goes to the left."""
    total = (0, 1)
    for p, q in zip(row, row[1:] + row[:1]):
        x, y = drawing[p]
        further, higher = drawing[q]
        total = plus(total, less(times(x, higher), times(y, further)))
    return total


def bends(drawing, row):
    """Whether the row has three places, and from each to the next one all others lie at the left hand."""
    return len(row) >= 3 and all_at_hand([drawing[p] for p in row], 1)
