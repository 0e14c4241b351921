"""The pull at a place, and how far two drawings lie apart."""

from restdraw.fractions import less, plus, sign, times


def pull(web, drawing, weights, place):
    """The sum of the ways from the place to its neighbours, each by its weight: a point."""
    x, y = drawing[place]
    across = up = (0, 1)
    for q in web[place]:
        weight = (weights.get((place, q), 1), 1)
        across = plus(across, times(weight, less(drawing[q][0], x)))
        up = plus(up, times(weight, less(drawing[q][1], y)))
    return (across, up)


def apart(one, other):
    """By how much two fractions differ, without sign."""
    n, d = less(one, other)
    return (abs(n), d)


def gap(point, other):
    """The greater of the two numbers by how much x and y differ."""
    across = apart(point[0], other[0])
    up = apart(point[1], other[1])
    return up if sign(less(up, across)) > 0 else across


def farthest(drawing, other):
    """The first place with the greatest gap, and this gap."""
    gaps = [gap(point, second) for point, second in zip(drawing, other)]
    place = 0
    for p, one in enumerate(gaps):
        if sign(less(one, gaps[place])) > 0:
            place = p
    return (place, gaps[place])
