"""Drawings at rest: each inner place the middle of its neighbours by weights, the rim at its corners."""

from restdraw.breaks import breaks, is_three_tied
from restdraw.errors import NoCorners, NoRim, NotTied, NoWeights
from restdraw.fractions import whole_point
from restdraw.meetings import all_at_hand
from restdraw.solving import solved
from restdraw.webs import are_whole, faces, is_whole, must_be_flat


def is_rim(web, rim):
    """Whether this tuple is a face of the web."""
    # Asked first, as True and 1 are one to Python.
    return are_whole(rim, len(rim)) and rim in faces(web)


def are_corners(rim, corners):
    """Whether this tuple is of as many points as the rim has places, and bends strictly to the right."""
    if len(corners) != len(rim) or not all([are_whole(corner, 2) for corner in corners]):
        return False
    return all_at_hand([whole_point(corner) for corner in corners], -1)


def is_inner_step(web, rim, thing):
    """Whether it is a step that leads from an inner place."""
    if not are_whole(thing, 2):
        return False
    p, q = thing
    return 0 <= p < len(web) and p not in rim and q in web[p]


def is_weight(thing):
    """Whether it is a whole number from 1 on."""
    return is_whole(thing) and thing >= 1


def are_weights(web, rim, weights):
    """Whether this dict leads from steps from inner places to whole numbers from 1 on."""
    return all([is_inner_step(web, rim, step) and is_weight(weight) for step, weight in weights.items()])


def must_rest(web, rim, corners, weights):
    """Refuses what can't come to rest."""
    must_be_flat(web)
    if not is_three_tied(web):
        raise NotTied(breaks(web))
    if not is_rim(web, rim):
        raise NoRim("this is no face of the web")
    if not are_corners(rim, corners):
        raise NoCorners("these are no corners of the rim")
    if not are_weights(web, rim, weights):
        raise NoWeights("these are no weights of steps from inner places")


def weights_from(web, weights, place):
    """A dict from the neighbours of the place to the weights of the steps to them."""
    return {q: weights.get((place, q), 1) for q in web[place]}


def rest_row(inner, place, weighed):
    """What the pull at the place takes of each inner place, as fractions."""
    held = dict(weighed)
    held[place] = -sum(weighed.values())
    return tuple([(held.get(q, 0), 1) for q in inner])


def rest_side(placed, weighed):
    """What the row of the place must come to, where these places stand at their corners already."""
    fixed = [(weight, placed[q]) for q, weight in weighed.items() if q in placed]
    return whole_point((-sum([weight * x for weight, (x, y) in fixed]), -sum([weight * y for weight, (x, y) in fixed])))


def at_rest(web, rim, corners, weights):
    """The one drawing with the rim at the corners and each inner place with the pull (0, 0)."""
    must_rest(web, rim, corners, weights)
    placed = dict(zip(rim, corners))
    inner = [p for p in range(len(web)) if p not in placed]
    weighed = [weights_from(web, weights, p) for p in inner]
    rows = tuple([rest_row(inner, p, some) for p, some in zip(inner, weighed)])
    sides = tuple([rest_side(placed, some) for some in weighed])
    points = {p: whole_point(corner) for p, corner in placed.items()}
    points.update(dict(zip(inner, solved(rows, sides))))
    return tuple([points[p] for p in range(len(web))])
