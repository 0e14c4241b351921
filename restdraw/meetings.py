"""Where straight ties meet in a drawing."""

from restdraw.errors import Alike
from restdraw.fractions import fraction, less, plus, sign, times
from restdraw.webs import ties


def spread(point):
    """Whole numbers (x, y, z), z above 0, of which x by z and y by z are the point.

    So hands and crossings are reckoned without bringing anything to lowest terms on the way.
    """
    (n, d), (m, e) = point
    return (n * e, m * d, d * e)


def across(one, other):
    """Of two spread points the line through both, of two lines the spread point on both."""
    a, b, c = one
    k, m, n = other
    return (b * n - c * m, c * k - a * n, a * m - b * k)


def hand(p, q, r):
    """1 where r lies at the left hand on the way from p to q, -1 at the right, else 0."""
    a, b, c = across(spread(p), spread(q))
    x, y, z = spread(r)
    return sign((a * x + b * y + c * z, 1))


def all_at_hand(points, which):
    """Whether on the way from each point to the next one, round, all others lie at this hand."""
    many = len(points)
    turned_on = [points[at:] + points[:at] for at in range(many)]
    return all([hand(row[0], row[1], r) == which for row in turned_on for r in row[2:]])


def hands(one, other):
    """At which hands of the first tie the two ends of the second lie."""
    return (hand(one[0], one[1], other[0]), hand(one[0], one[1], other[1]))


def lies_between(point, one):
    """Whether a point on the line of a tie lies between its ends, and is none of them."""
    x, y = point
    start, end = one
    wide = times(less(start[0], x), less(end[0], x))
    high = times(less(start[1], y), less(end[1], y))
    return sign(plus(wide, high)) < 0


def overlap(one, other):
    """Whether two ties on one line, which have not both ends in common, have more than one point in common."""
    return any([lies_between(end, other) for end in one] + [lies_between(end, one) for end in other])


def crossing(one, other):
    """The point that two lines, which are not side by side, have in common."""
    first = across(spread(one[0]), spread(one[1]))
    second = across(spread(other[0]), spread(other[1]))
    x, y, z = across(first, second)
    return (fraction(x, z), fraction(y, z))


def met(one, other):
    """How two straight ties without a common end meet, and where; or None."""
    here = hands(one, other)
    if here == (0, 0):
        return ("over", None) if overlap(one, other) else None
    there = hands(other, one)
    if here[0] * here[1] > 0 or there[0] * there[1] > 0:
        return None
    # Neither lies at one hand of the other, nor on its line: so they have just one point in common.
    if 0 in here:
        return ("touch", other[here.index(0)])
    if 0 in there:
        return ("touch", one[there.index(0)])
    return ("cross", crossing(one, other))


def joined_met(one, other):
    """How two straight ties with a common end meet, and where; or None."""
    return ("over", None) if hands(one, other) == (0, 0) and overlap(one, other) else None


def tie_met(drawing, tie, other):
    """How two ties of the drawing meet, and where; or None."""
    one = (drawing[tie[0]], drawing[tie[1]])
    second = (drawing[other[0]], drawing[other[1]])
    if tie[0] in other or tie[1] in other:
        return joined_met(one, second)
    found = met(one, second)
    if found is None or found[0] != "touch":
        return found
    return ("touch", [p for p in tie + other if drawing[p] == found[1]][0])


def alike(drawing):
    """The least pair of places that have one point, or None."""
    firsts = {}
    pairs = []
    for q, point in enumerate(drawing):
        p = firsts.setdefault(point, q)
        if p != q:
            pairs.append((p, q))
    return min(pairs) if pairs else None


def must_be_unlike(drawing):
    """Refuses a drawing where two places have one point."""
    pair = alike(drawing)
    if pair is not None:
        raise Alike(pair)


def meetings(web, drawing):
    """All meetings, sorted."""
    must_be_unlike(drawing)
    told = []
    some = ties(web)
    for at, tie in enumerate(some):
        for other in some[at + 1:]:
            found = tie_met(drawing, tie, other)
            if found is not None:
                told.append((tie, other) + found)
    return told
