"""Three-cornered webs, and their bases."""

from restdraw.errors import NoBase, NotCornered
from restdraw.webs import are_whole, faces, is_flat, must_be_flat, steps_round


def uncornered_face(web):
    """The first face that has not three places, or None."""
    some = [face for face in faces(web) if len(face) != 3]
    return some[0] if some else None


def is_three_cornered(web):
    """Whether the web is flat and each face has three places."""
    return is_flat(web) and uncornered_face(web) is None


def are_round(web, p, q, r):
    """Whether the steps from p to q, on to r and back to p, p and q being neighbours, go round one face."""
    return steps_round(web, (p, q)) == [(p, q), (q, r), (r, p)]


def is_base(web, thing):
    """Whether it is a base of the three-cornered web, of anything."""
    if not are_whole(thing, 3):
        return False
    a, b, c = thing
    return 0 <= a < len(web) and c in web[a] and are_round(web, a, c, b)


def must_have_base(web, base):
    """Refuses a web that is not three-cornered, and a tuple that is no base of it."""
    must_be_flat(web)
    face = uncornered_face(web)
    if face is not None:
        raise NotCornered(face)
    if not is_base(web, base):
        raise NoBase("this is no base of the web")
