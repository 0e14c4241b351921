"""Orders that go along with woods."""

from restdraw.orders import must_be_laid
from restdraw.woods import inner_places, must_have_woods


def goes_along(web, base, woods, order):
    """Whether each inner place stands in the order behind its ways out 0 and 1 and ahead of its way out 2."""
    # The order is refused ahead of the woods.
    must_be_laid(web, base, order)
    must_have_woods(web, base, woods)
    at = {p: k for k, p in enumerate(order)}
    outs = [(at[p], woods[p]) for p in inner_places(web, base)]
    return all([at[first] < here and at[second] < here < at[third] for here, (first, second, third) in outs])


def must_stand_ahead(woods, place):
    """Those that stand ahead of an inner place in each order that goes along."""
    return list(woods[place][:2]) + [p for p, row in enumerate(woods) if row and row[2] == place]


def order_along(web, base, woods):
    """An order that goes along with the woods: next comes the least inner place for which all are there.

    There always is one: woods have such orders, and of those that are left the first one in such an order is free.
    Each tuple so built is an order, with these woods.
    """
    must_have_woods(web, base, woods)
    a, b, c = base
    order = [a, b]
    left = {p: must_stand_ahead(woods, p) for p in inner_places(web, base)}
    while left:
        free = [p for p, ahead in left.items() if all([q in order for q in ahead])]
        order.append(free[0])
        del left[free[0]]
    return tuple(order + [c])
