"""Any flat web drawn on a small grid."""

from restdraw.filling import filled
from restdraw.grids import grid
from restdraw.orders import order_of
from restdraw.webs import faces


def drawn(web):
    """A tuple of (x, y) by places, of which as points the judge tells None: the grid of the web filled."""
    full, put = filled(web)
    a, c, b = faces(full)[0]
    base = (a, b, c)
    return grid(full, base, order_of(full, base))
