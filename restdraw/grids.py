"""The grid by an order: place by place, what stands behind a new one moves to the right to make room for it."""

from restdraw.fractions import whole_point
from restdraw.orders import must_be_laid


def moved_right(spots, hung, places, by):
    """The spots, where all that hangs at these places has gone so far to the right."""
    gone = [q for p in places for q in hung[p]]
    return {p: (x + by, y) if p in gone else (x, y) for p, (x, y) in spots.items()}


def spot_over(left, right):
    """Where the line that rises from the left spot to the right meets the one that rises from the right to the left."""
    x, y = left
    further, higher = right
    # Halves never come: ways between spots of a round are even, across and up taken together.
    way = (further - x + higher - y) // 2
    return (x + way, y + way)


def grids_by(order, found, tops):
    """The spots behind two, three, .. and all places, as a list of dicts; by the order's stretches and rounds."""
    spots = {p: (0, 0) for p in order[:2]}
    hung = {p: [p] for p in order[:2]}
    told = [spots]
    for v, stretch, top in zip(order[2:], found, tops):
        right = stretch[-1]
        spots = moved_right(spots, hung, stretch[1:-1], 1)
        spots = moved_right(spots, hung, top[top.index(right):], 2)
        spots[v] = spot_over(spots[stretch[0]], spots[right])
        hung[v] = [v] + [q for p in stretch[1:-1] for q in hung[p]]
        told.append(spots)
    return told


def grids(web, base, order):
    """Behind two, three, .. and all places a tuple of (place, x, y) in the order."""
    found, tops = must_be_laid(web, base, order)
    return tuple([tuple([(p, x, y) for p, (x, y) in spots.items()]) for spots in grids_by(order, found, tops)])


def grid(web, base, order):
    """The tuple of (x, y) by places, behind all."""
    found, tops = must_be_laid(web, base, order)
    spots = grids_by(order, found, tops)[-1]
    return tuple([spots[p] for p in range(len(web))])


def as_points(some):
    """The drawing with these (x, y)."""
    return tuple([whole_point(pair) for pair in some])
