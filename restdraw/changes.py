"""What comes of a tie put in: by how much each place at rest is moved."""

from restdraw.errors import NoFace
from restdraw.fractions import less
from restdraw.puttingin import put_in
from restdraw.resting import at_rest


def goes_round(rim, step):
    """Whether the step leads from a place of the rim to the next one."""
    return step in list(zip(rim, rim[1:] + rim[:1]))


def moved(web, rim, corners, weights, step, other):
    """The list of points by which each place is moved by a tie put in: at rest with it less at rest without it."""
    without = at_rest(web, rim, corners, weights)
    if goes_round(rim, step):
        raise NoFace("the first step goes round the rim")
    # Where only the other step goes round the rim, the two go round unlike faces.
    full = put_in(web, step, other)
    tied = at_rest(full, rim, corners, weights)
    return [(less(x, before), less(y, below)) for (x, y), (before, below) in zip(tied, without)]
