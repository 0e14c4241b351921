"""Drawings judged: whether they show their web flat, and which face lies outside."""

from restdraw.fractions import sign
from restdraw.meetings import alike, meetings
from restdraw.turnings import area, turned
from restdraw.webs import faces


def judged(web, drawing):
    """What is wrong first with the drawing: places alike, a meeting, a row's turn; or None."""
    pair = alike(drawing)
    if pair is not None:
        return ("alike", pair)
    found = meetings(web, drawing)
    if found:
        return ("meet", found[0])
    # Neighbours in one direction would have met, so that nothing is folded here.
    rows = turned(web, drawing)
    wrong = [p for p in range(len(web)) if rows[p] != web[p]]
    return ("turn", wrong[0]) if wrong else None


def outer(web, drawing):
    """The outer face of a flat web of which the judge tells None."""
    some = faces(web)
    if len(some) == 1:
        return some[0]
    return [face for face in some if sign(area(drawing, face)) < 0][0]
