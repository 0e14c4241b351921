"""The grid by counts: of the weights of faces in the lands of each place."""

from restdraw.errors import NoWeights
from restdraw.lands import lands_of
from restdraw.resting import is_weight
from restdraw.webs import are_whole, faces, from_least
from restdraw.woods import must_have_woods


def inner_faces(web, base):
    """All faces but the outer one, sorted."""
    a, b, c = base
    outer = from_least([a, c, b])
    return [face for face in faces(web) if face != outer]


def all_weights(web, base, weights):
    """A dict from all faces but the outer one to their weights; refused with NoWeights."""
    some = inner_faces(web, base)
    # That they are whole numbers is asked first, as True and 1 are one to Python.
    if not all([are_whole(face, 3) and face in some and is_weight(one) for face, one in weights.items()]):
        raise NoWeights("these are no weights of faces but the outer one")
    return {face: weights.get(face, 1) for face in some}


def must_count(web, base, woods, weights):
    """The weights of all faces but the outer one; refused with all that is due."""
    must_have_woods(web, base, woods)
    return all_weights(web, base, weights)


def counts_by(web, base, woods, weighed, place):
    """The counts of any place, by the weights of all faces but the outer one."""
    if place in base:
        whole = sum(weighed.values())
        return tuple([whole if place == corner else 0 for corner in base])
    return tuple([sum([weighed[face] for face in land]) for land in lands_of(web, base, woods, place)])


def counts(web, base, woods, weights, place):
    """The counts of any place: of its three lands."""
    weighed = must_count(web, base, woods, weights)
    return counts_by(web, base, woods, weighed, place)


def counted(web, base, woods, weights):
    """The tuple of (x, y) by places, x being count 1 and y count 2."""
    weighed = must_count(web, base, woods, weights)
    return tuple([counts_by(web, base, woods, weighed, p)[1:] for p in range(len(web))])
