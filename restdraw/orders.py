"""Orders of a base: place by place, each over a stretch of the round of those ahead of it."""

from restdraw.bases import are_round, must_have_base
from restdraw.errors import NoOrder
from restdraw.webs import are_whole, from_on


def has_ends(web, base, thing):
    """Whether it is a tuple of all places, each once, with those of the base where they must be."""
    if not are_whole(thing, len(web)) or sorted(thing) != list(range(len(web))):
        return False
    a, b, c = base
    return (thing[0], thing[1], thing[-1]) == (a, b, c)


def stretch_under(web, top, ahead, place):
    """The part of the round over which the place can be put, behind these ahead of it; or None."""
    below = [q for q in ahead if q in web[place]]
    stretch = [q for q in top if q in below]
    if len(stretch) < 2 or len(stretch) != len(below):
        return None
    start = top.index(stretch[0])
    if top[start:start + len(stretch)] != stretch:
        return None
    if not all([are_round(web, x, y, place) for x, y in zip(stretch, stretch[1:])]):
        return None
    return stretch


def put_over(top, stretch, place):
    """The round with the place put over this stretch of it."""
    start = top.index(stretch[0])
    end = top.index(stretch[-1])
    return top[:start + 1] + [place] + top[end:]


def laid(web, base, thing):
    """The stretches and the rounds behind two, three, .. places, as lists of lists; or None where it is no order."""
    if not has_ends(web, base, thing):
        return None
    found = []
    tops = [list(thing[:2])]
    for at in range(2, len(thing)):
        stretch = stretch_under(web, tops[-1], thing[:at], thing[at])
        if stretch is None:
            return None
        found.append(stretch)
        tops.append(put_over(tops[-1], stretch, thing[at]))
    return (found, tops)


def must_be_laid(web, base, order):
    """The stretches and the rounds of an order; refused with all that is due."""
    must_have_base(web, base)
    both = laid(web, base, order)
    if both is None:
        raise NoOrder("this is no order of the base")
    return both


def is_order(web, base, thing):
    """Whether it is an order of the base, of anything."""
    must_have_base(web, base)
    return laid(web, base, thing) is not None


def rounds(web, base, order):
    """The rounds behind two, three, .. and all places."""
    found, tops = must_be_laid(web, base, order)
    return tuple([tuple(top) for top in tops])


def stretches(web, base, order):
    """The stretches of the third, fourth, .. and last place."""
    found, tops = must_be_laid(web, base, order)
    return tuple([tuple(stretch) for stretch in found])


def first_loose(web, top):
    """Where in the round the first place between its ends stands that is tied to no others of it than those beside it.

    There always is one: the shortest part of the round between two of it that are tied, though not side by side, has
    none but such between its ends, as no tie leads across that tie.
    """
    loose = [at for at in range(1, len(top) - 1) if len([q for q in top if q in web[top[at]]]) == 2]
    return loose[0]


def from_to(row, first, last):
    """The part of a row, in turn to the left, from one neighbour to another."""
    around = from_on(row, first)
    return list(around[:around.index(last) + 1])


def order_of(web, base):
    """An order of the base, found from its last place on: what is loose is taken off the round."""
    must_have_base(web, base)
    a, b, c = base
    top = [a, c, b]
    off = []
    while len(top) > 2:
        at = first_loose(web, top)
        place = top[at]
        top = top[:at - 1] + from_to(web[place], top[at - 1], top[at + 1]) + top[at + 2:]
        off.append(place)
    return (a, b) + tuple(off[::-1])
