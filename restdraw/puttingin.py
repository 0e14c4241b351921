"""Ties put in between two steps round one face, and taken out."""

from restdraw.errors import Doubled, NoFace, NoTie, Parted
from restdraw.webs import from_least, hang_together, steps_round


def is_step(web, pair):
    """Whether two whole numbers are a step; one below 0 must not count from the web's end."""
    p, q = pair
    return 0 <= p < len(web) and q in web[p]


def with_behind(row, place, added):
    """The row with one more neighbour right behind this one."""
    at = row.index(place) + 1
    return from_least(row[:at] + (added,) + row[at:])


def put_in(web, step, other):
    """The web with a tie between the places from which two steps round one face lead."""
    if not is_step(web, step) or other not in steps_round(web, step):
        raise NoFace("these are no two steps round one face")
    p, v = step
    q, w = other
    if p == q or q in web[p]:
        raise Doubled((min(p, q), max(p, q)))
    rows = list(web)
    rows[p] = with_behind(web[p], v, q)
    rows[q] = with_behind(web[q], w, p)
    return tuple(rows)


def row_without(row, place):
    """The row without this neighbour."""
    left = [q for q in row if q != place]
    return from_least(left) if left else ()


def taken_out(web, tie):
    """The web without this tie."""
    p, q = tie
    if p >= q or not is_step(web, tie):
        raise NoTie(tie)
    rows = list(web)
    rows[p] = row_without(web[p], q)
    rows[q] = row_without(web[q], p)
    if not hang_together(rows, ()):
        raise Parted(tie)
    return tuple(rows)
