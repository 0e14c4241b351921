"""Three woods of a base: ways out of each inner place, that lead on to the three corners."""

from restdraw.bases import must_have_base
from restdraw.errors import NoWoods
from restdraw.orders import must_be_laid
from restdraw.webs import are_whole, from_on, ties

# In turn from the way out 0 on: where the ways out 0, 1, 2 stand, and those of which it is the way out 0, 1, 2.
OUT = (0, 2, 4)
INTO = (3, 5, 1)


def inner_places(web, base):
    """All places but those of the base."""
    return [p for p in range(len(web)) if p not in base]


def is_out_row(web, base, place, thing):
    """Whether it is a tuple of three unlike neighbours of an inner place, or the empty one of a corner."""
    many = 0 if place in base else 3
    return are_whole(thing, many) and len(set(thing)) == many and all([q in web[place] for q in thing])


def leads_one_way(base, rows, tie):
    """Whether the tie is a way out of just one of its places, or lies between two corners."""
    p, q = tie
    return p in base and q in base or (q in rows[p]) != (p in rows[q])


def stands(rows, place, q):
    """Where in turn, from the way out 0 on, a neighbour of an inner place must stand."""
    if q in rows[place]:
        return OUT[rows[place].index(q)]
    return INTO[rows[q].index(place)]


def stand_in_turn(web, rows, place):
    """Whether the neighbours of an inner place stand in turn as its ways out and theirs ask for."""
    numbers = [stands(rows, place, q) for q in from_on(web[place], rows[place][0])]
    return numbers == sorted(numbers)


def lead_in(web, base, rows, k):
    """Whether the corner k of the base is the way out k of all its inner neighbours."""
    corner = base[k]
    return all([rows[q][k] == corner for q in web[corner] if q not in base])


def are_woods(web, base, thing):
    """Whether it is woods of this base of the web, of anything."""
    if not isinstance(thing, tuple) or len(thing) != len(web):
        return False
    if not all([is_out_row(web, base, p, row) for p, row in enumerate(thing)]):
        return False
    # Only then each neighbour that is no way out has this place as one of its own.
    if not all([leads_one_way(base, thing, tie) for tie in ties(web)]):
        return False
    if not all([lead_in(web, base, thing, k) for k in range(3)]):
        return False
    return all([stand_in_turn(web, thing, p) for p in inner_places(web, base)])


def is_woods(web, base, thing):
    """Whether it is woods of the base, of anything."""
    must_have_base(web, base)
    return are_woods(web, base, thing)


def must_have_woods(web, base, woods):
    """Refuses a web, a base and woods with what is due."""
    if not is_woods(web, base, woods):
        raise NoWoods("these are no woods of the base")


def woods_of(web, base, order):
    """The woods of an order."""
    found, tops = must_be_laid(web, base, order)
    under = dict(zip(order[2:], found))
    over = {q: v for v, stretch in under.items() for q in stretch[1:-1]}
    rows = {p: (under[p][0], under[p][-1], over[p]) for p in inner_places(web, base)}
    return tuple([rows.get(p, ()) for p in range(len(web))])


def way_out(base, woods, place, k):
    """The list of places by ways out k, from an inner place to the corner."""
    path = [place]
    while path[-1] != base[k]:
        path.append(woods[path[-1]][k])
    return path


def way(web, base, woods, place, k):
    """The way k of an inner place."""
    must_have_woods(web, base, woods)
    return tuple(way_out(base, woods, place, k))
